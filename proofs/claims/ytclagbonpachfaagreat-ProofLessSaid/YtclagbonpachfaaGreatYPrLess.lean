/- ProofLess: for every input the law returns true: with the water that Water returns the blend is at most of the strength, with one gallon less it is not, and a greater strength needs no more. No condition. -/
import Derived.Test.YtclagbonpachfaaGreatRows
import Derived.WalkKit
import Derived.Test.YtclagbonpachfaaGreatYPrW4
import Derived.Test.YtclagbonpachfaaGreatYPrE4
import Derived.Test.YtclagbonpachfaaGreatYPrArg
import Derived.Test.YtclagbonpachfaaGreatYEd
set_option linter.all false
set_option linter.unusedSimpArgs false
set_option linter.unusedVariables false
namespace Go.Proofs.YtclagbonpachfaaGreat
namespace BL
open Go Go.Ev Go.ChangeShapes Go.WideShapes Go.ChangeAt Go.RowKit
set_option maxRecDepth 1000000
noncomputable section
theorem wf_get {k:Nat} {fc g:Nat→Nat→Int} {x h0 h1 h2 h3 h4 h5:Int}:(wfB fc k g x h0 h1 h2 h3 h4 h5=false∧∀ i:Nat,i<100→¬ blV fc g (i:Int) h0 h1 h2 h3 h4 h5 k≤x) ∨
    (wfB fc k g x h0 h1 h2 h3 h4 h5=true∧∃ N:Nat,N<100∧wfI fc k g x h0 h1 h2 h3 h4 h5=(N:Int)∧blV fc g (N:Int) h0 h1 h2 h3 h4 h5 k≤x∧∀ i:Nat,i<N→¬ blV fc g (i:Int) h0 h1 h2 h3 h4 h5 k≤x):=by
  have no:∀ {i:Nat},wpB fc k g x h0 h1 h2 h3 h4 h5 i=false→¬ blV fc g (i:Int) h0 h1 h2 h3 h4 h5 k≤x:=fun {i} q z=>by
    rw [show wpB fc k g x h0 h1 h2 h3 h4 h5 i=true from (iLe_t _ _).mpr z] at q;cases q
  rcases fsN_sp (p:=wpB fc k g x h0 h1 h2 h3 h4 h5) (k:=100) (i:=0) with ⟨e,h⟩ | ⟨_,z1,z2,z3⟩
  · exact .inl ⟨by unfold wfB wfN;rw [e];rfl,fun i hi=>no (h i (by omega) (by omega))⟩
  · have hN:wfN fc k g x h0 h1 h2 h3 h4 h5<100:=by unfold wfN;omega
    have e1:wfB fc k g x h0 h1 h2 h3 h4 h5=true:=blt_t' hN
    exact .inr ⟨e1,wfN fc k g x h0 h1 h2 h3 h4 h5,hN,by unfold wfI;rw [e1];rfl,(iLe_t _ _).mp z2,fun i hi=>no (z3 i (by omega) hi)⟩
theorem bl_le (lw:Nat) (fw:Nat→Nat→Int) (lm:Nat) (fm:Nat→Nat→Int) (n:Nat) (ls:Nat→Nat) (f:Nat→Nat→Nat→Int) (r:Int) (nc:Nat) (fc:Nat→Nat→Int) (ok:StOk lw fw lm fm n ls f r nc fc) {m:Nat} {g:Nat→Nat→Int} {w:Int} (hb:hbB nc g m=true) (km:m≤1000) (h5:0≤w):0≤blV fc g w (loV lw fw lm fm f nc fc 0) (loV lw fw lm fm f nc fc 1) (loV lw fw lm fm f nc fc 2) (loV lw fw lm fm f nc fc 3) (loV lw fw lm fm f nc fc 4) (loV lw fw lm fm f nc fc 5) m∧blV fc g w (loV lw fw lm fm f nc fc 0) (loV lw fw lm fm f nc fc 1) (loV lw fw lm fm f nc fc 2) (loV lw fw lm fm f nc fc 3) (loV lw fw lm fm f nc fc 4) (loV lw fw lm fm f nc fc 5) m≤blV fc g w (hiV lw fw lm fm f nc fc 0) (hiV lw fw lm fm f nc fc 1) (hiV lw fw lm fm f nc fc 2) (hiV lw fw lm fm f nc fc 3) (hiV lw fw lm fm f nc fc 4) (hiV lw fw lm fm f nc fc 5) m:=by
  obtain ⟨hk,hl⟩:=hb_get hb
  have hgi:∀ i,i<m→1≤fc (Int.toNat (g i 0)) 0∧fc (Int.toNat (g i 0)) 0≤99:=fun i hi=>(ok.cask (Int.toNat (g i 0)) (by have:=hl i hi;omega)).1
  have hs:∀ i,i≤m→0≤ssm fc g (loV lw fw lm fm f nc fc 0) (loV lw fw lm fm f nc fc 1) (loV lw fw lm fm f nc fc 2) (loV lw fw lm fm f nc fc 3) (loV lw fw lm fm f nc fc 4) (loV lw fw lm fm f nc fc 5) i∧ssm fc g (loV lw fw lm fm f nc fc 0) (loV lw fw lm fm f nc fc 1) (loV lw fw lm fm f nc fc 2) (loV lw fw lm fm f nc fc 3) (loV lw fw lm fm f nc fc 4) (loV lw fw lm fm f nc fc 5) i≤ssm fc g (hiV lw fw lm fm f nc fc 0) (hiV lw fw lm fm f nc fc 1) (hiV lw fw lm fm f nc fc 2) (hiV lw fw lm fm f nc fc 3) (hiV lw fw lm fm f nc fc 4) (hiV lw fw lm fm f nc fc 5) i:=by
    intro i
    induction i with
    | zero=>intro _;exact ⟨Int.le_refl _,Int.le_refl _⟩
    | succ i ih =>
      intro hi
      have z:=ih (by omega)
      have d:=hl i (by omega)
      have e:g i 0=Int.ofNat (Int.toNat (g i 0)):=by have:(Int.toNat (g i 0):Int)=g i 0:=Int.toNat_of_nonneg d.1;exact this.symm
      have hj:Int.toNat (g i 0)<nc:=by omega
      have t1:=lo_sel (fw:=fw) (lm:=lm) (lw:=lw) (fm:=fm) (f:=f) (fc:=fc) ok.six hj
      have t2:=hi_sel (fw:=fw) (lm:=lm) (lw:=lw) (fm:=fm) (f:=f) (fc:=fc) ok.six hj
      rw [← e] at t1 t2
      have q:=st_bd lw fw lm fm n ls f r nc fc ok hj
      have c:=hgi i (by omega)
      have p1:=Int.mul_nonneg (show 0≤fc (Int.toNat (g i 0)) 0 by omega) q.1
      have p2:=Int.mul_le_mul_of_nonneg_left q.2.1 (show 0≤fc (Int.toNat (g i 0)) 0 by omega)
      rw [ssm_s,ssm_s,t1,t2];omega
  have hg:=gsm_ge (nc:=nc) h5 (fun i hi=>(hgi i hi).1) m (Nat.le_refl m)
  have z:=hs m (Nat.le_refl m)
  unfold blV
  rw [Int.tdiv_eq_ediv_of_nonneg z.1,Int.tdiv_eq_ediv_of_nonneg (by omega)]
  exact ⟨Int.ediv_nonneg z.1 (by omega),Int.ediv_le_ediv (by omega) z.2⟩
def valG:Val:=fun das=>match das with
  | [.st [.sl 1 lw fw,.sl 1 lm fm,.rr 1 n ls f,.i .i64 r,.sl 5 nc fc],.one (.i .u8 b),.one (.i .u16 a),.one (.i .u16 c)]=>some (decide (0≤b∧b≤255∧0≤a∧a≤65535∧0≤c∧c≤65535),.bool true)
  | _=>none
theorem conG:Con Tryz.prog 4 valG:=by
  intro das v hv
  unfold valG at hv
  split at hv
  · rename_i lw fw lm fm n ls f r nc fc b a c
    have hd:=of_decide_eq_true (congrArg Prod.fst (Option.some.inj hv))
    have hv:=congrArg Prod.snd (Option.some.inj hv)
    subst hv
    obtain ⟨y1,y2,y3,y4,y5,y6⟩:=hd
    have fin:∀ {h:HT},VC (runD0 Tryz.prog XP 600 4 (enc [.st [.sl 1 lw fw,.sl 1 lm fm,.rr 1 n ls f,.i .i64 r,.sl 5 nc fc],.one (.i .u8 b),.one (.i .u16 a),.one (.i .u16 c)] 0) 4 (fun v=>valP v (.bool true))) h→flatV (.bool true)=true∧∃ v' H',SpecCall Tryz.prog 4 (enc [.st [.sl 1 lw fw,.sl 1 lm fm,.rr 1 n ls f,.i .i64 r,.sl 5 nc fc],.one (.i .u8 b),.one (.i .u16 a),.one (.i .u16 c)] 0) (heap0 5) v' H'∧valP v' (.bool true):=fun hvc =>
      con_runV drawnC XP_ok rfl (das:=[.st [.sl 1 lw fw,.sl 1 lm fm,.rr 1 n ls f,.i .i64 r,.sl 5 nc fc],.one (.i .u8 b),.one (.i .u16 a),.one (.i .u16 c)]) hvc
    cases hth:thB lw lm n ls with
    | false=>exact fin (le1 lw fw lm fm n ls f r nc fc b a c hth)
    | true =>
    have hs:=th_sm hth
    by_cases h9:nc≤9
    · by_cases hc:ckE lw fw lm fm n ls f r nc fc=0
      · by_cases h0:0<nc
        · have ok:=ckE_get lw fw lm fm n ls f r nc fc hc
          obtain ⟨c1,c2,c3⟩:=ck_hyp lw fw lm fm n ls f r nc fc hc
          have q1:=tm_bd (b:=a) (p:=2000) y3 (by decide)
          have q2:=tm_bd (b:=c) (p:=200) y5 (by decide)
          have hb:=so_hb (nc:=nc) h0 c2 ⟨y1,y2⟩
          have km:soN nc b≤6:=by
            by_cases z:biN (soM nc b)=0
            · rw [(so_z z).1];omega
            · rw [(so_n z).1];exact biN_le _
          have n1:1≤(1+Int.tmod a 2000)∧(1+Int.tmod a 2000)≤2000:=by omega
          have n2:(1+Int.tmod a 2000)≤(min 2000 (1+Int.tmod a 2000+Int.tmod c 200))∧(min 2000 (1+Int.tmod a 2000+Int.tmod c 200))≤2000:=by omega
          have waO:∀ x,1≤x→x≤2000→(wfB fc (soN nc b) (soF nc b) x (hiV lw fw lm fm f nc fc 0) (hiV lw fw lm fm f nc fc 1) (hiV lw fw lm fm f nc fc 2) (hiV lw fw lm fm f nc fc 3) (hiV lw fw lm fm f nc fc 4) (hiV lw fw lm fm f nc fc 5)=false∧waE lw fw lm fm n ls f r nc fc (soN nc b) (soF nc b) x=10)∨(wfB fc (soN nc b) (soF nc b) x (hiV lw fw lm fm f nc fc 0) (hiV lw fw lm fm f nc fc 1) (hiV lw fw lm fm f nc fc 2) (hiV lw fw lm fm f nc fc 3) (hiV lw fw lm fm f nc fc 4) (hiV lw fw lm fm f nc fc 5)=true∧waE lw fw lm fm n ls f r nc fc (soN nc b) (soF nc b) x=0∧waV lw fw lm fm n ls f r nc fc (soN nc b) (soF nc b) x=wfI fc (soN nc b) (soF nc b) x (hiV lw fw lm fm f nc fc 0) (hiV lw fw lm fm f nc fc 1) (hiV lw fw lm fm f nc fc 2) (hiV lw fw lm fm f nc fc 3) (hiV lw fw lm fm f nc fc 4) (hiV lw fw lm fm f nc fc 5)):=fun x x1 x2=>by
            rcases waE_cases lw fw lm fm n ls f r nc fc (soN nc b) (soF nc b) x with ⟨z,_⟩ | ⟨_,z,_⟩ | ⟨_,_,z,_⟩ | ⟨_,_,_,z,_⟩ | ⟨_,_,_,_,z,e⟩ | ⟨_,_,_,_,z,e⟩
            · exact absurd hc z
            · rw [hb] at z;cases z
            · exact absurd x1 z
            · exact absurd x2 z
            · exact .inl ⟨z,e⟩
            · exact .inr ⟨z,e,by unfold waV;rw [e];rfl⟩
          have bd:∀ w,0≤w→w≤99→bdE lw fw lm fm n ls f r nc fc (soN nc b) (soF nc b) w=0∧bdL lw fw lm fm n ls f r nc fc (soN nc b) (soF nc b) w=blV fc (soF nc b) w (loV lw fw lm fm f nc fc 0) (loV lw fw lm fm f nc fc 1) (loV lw fw lm fm f nc fc 2) (loV lw fw lm fm f nc fc 3) (loV lw fw lm fm f nc fc 4) (loV lw fw lm fm f nc fc 5) (soN nc b)∧bdH lw fw lm fm n ls f r nc fc (soN nc b) (soF nc b) w=blV fc (soF nc b) w (hiV lw fw lm fm f nc fc 0) (hiV lw fw lm fm f nc fc 1) (hiV lw fw lm fm f nc fc 2) (hiV lw fw lm fm f nc fc 3) (hiV lw fw lm fm f nc fc 4) (hiV lw fw lm fm f nc fc 5) (soN nc b):=fun w w1 w2=>bd_so lw fw lm fm n ls f r nc fc (soN nc b) (soF nc b) hc hb w1 w2
          rcases waO (1+Int.tmod a 2000) n1.1 n1.2 with ⟨w1,e1⟩ | ⟨w1,e1,v1⟩
          · obtain ⟨b0,_,b2⟩:=bd 99 (by decide) (by decide)
            have hno:¬ bdH lw fw lm fm n ls f r nc fc (soN nc b) (soF nc b) 99≤(1+Int.tmod a 2000):=by
              rcases wf_get (fc:=fc) (k:=soN nc b) (g:=soF nc b) (x:=(1+Int.tmod a 2000)) with ⟨_,z⟩ | ⟨z,_⟩
              · rw [b2];exact z 99 (by omega)
              · rw [w1] at z;cases z
            have e2:waE lw fw lm fm n ls f r nc fc (soN nc b) (soF nc b) (min 2000 (1+Int.tmod a 2000+Int.tmod c 200))=0∨waE lw fw lm fm n ls f r nc fc (soN nc b) (soF nc b) (min 2000 (1+Int.tmod a 2000+Int.tmod c 200))=10:=by
              rcases waO (min 2000 (1+Int.tmod a 2000+Int.tmod c 200)) (by omega) n2.2 with ⟨_,z⟩ | ⟨_,z,_⟩
              · exact .inr z
              · exact .inl z
            exact fin (le5 lw fw lm fm n ls f r nc fc b a c hth hs c2 h0 hc c1 ⟨y1,y2⟩ ⟨y3,y4⟩ ⟨y5,y6⟩ (by omega) (by omega) km e1 e2 b0 hno)
          · rcases wf_get (fc:=fc) (k:=soN nc b) (g:=soF nc b) (x:=(1+Int.tmod a 2000)) with ⟨z,_⟩ | ⟨_,i,i1,i2,i3,i4⟩
            · rw [w1] at z;cases z
            · rw [i2] at v1
              rcases wf_get (fc:=fc) (k:=soN nc b) (g:=soF nc b) (x:=(min 2000 (1+Int.tmod a 2000+Int.tmod c 200))) with ⟨z,zz⟩ | ⟨z,j,j1,j2,j3,j4⟩
              · exact absurd (Int.le_trans i3 n2.1) (zz i i1)
              · have hji:j≤i:=by
                  rcases Nat.lt_or_ge i j with q | q
                  · exact absurd (Int.le_trans i3 n2.1) (j4 i q)
                  · exact q
                obtain ⟨_,e2,v2⟩:wfB fc (soN nc b) (soF nc b) (min 2000 (1+Int.tmod a 2000+Int.tmod c 200)) (hiV lw fw lm fm f nc fc 0) (hiV lw fw lm fm f nc fc 1) (hiV lw fw lm fm f nc fc 2) (hiV lw fw lm fm f nc fc 3) (hiV lw fw lm fm f nc fc 4) (hiV lw fw lm fm f nc fc 5)=true∧waE lw fw lm fm n ls f r nc fc (soN nc b) (soF nc b) (min 2000 (1+Int.tmod a 2000+Int.tmod c 200))=0∧waV lw fw lm fm n ls f r nc fc (soN nc b) (soF nc b) (min 2000 (1+Int.tmod a 2000+Int.tmod c 200))=wfI fc (soN nc b) (soF nc b) (min 2000 (1+Int.tmod a 2000+Int.tmod c 200)) (hiV lw fw lm fm f nc fc 0) (hiV lw fw lm fm f nc fc 1) (hiV lw fw lm fm f nc fc 2) (hiV lw fw lm fm f nc fc 3) (hiV lw fw lm fm f nc fc 4) (hiV lw fw lm fm f nc fc 5):=by
                  rcases waO (min 2000 (1+Int.tmod a 2000+Int.tmod c 200)) (by omega) n2.2 with ⟨u,_⟩ | u
                  · rw [z] at u;cases u
                  · exact u
                rw [j2] at v2
                obtain ⟨b0,b1,b2⟩:=bd (waV lw fw lm fm n ls f r nc fc (soN nc b) (soF nc b) (1+Int.tmod a 2000)) (by rw [v1];omega) (by rw [v1];omega)
                have ord:=bl_le lw fw lm fm n ls f r nc fc ok (w:=waV lw fw lm fm n ls f r nc fc (soN nc b) (soF nc b) (1+Int.tmod a 2000)) hb (by omega) (by rw [v1];omega)
                have top:bdH lw fw lm fm n ls f r nc fc (soN nc b) (soF nc b) (waV lw fw lm fm n ls f r nc fc (soN nc b) (soF nc b) (1+Int.tmod a 2000))≤(1+Int.tmod a 2000):=by rw [b2,v1];exact i3
                rw [← b1,← b2] at ord
                by_cases h00:waV lw fw lm fm n ls f r nc fc (soN nc b) (soF nc b) (1+Int.tmod a 2000)=0
                · exact fin (le6 lw fw lm fm n ls f r nc fc b a c hth hs c2 h0 hc c1 ⟨y1,y2⟩ ⟨y3,y4⟩ ⟨y5,y6⟩ (by omega) (by omega) km e1 e2 (by rw [v1];omega) (by rw [v1,v2];omega) h00 b0 ord.1 ord.2 top)
                · obtain ⟨d0,_,d2⟩:=bd (waV lw fw lm fm n ls f r nc fc (soN nc b) (soF nc b) (1+Int.tmod a 2000)-1) (by rw [v1] at h00 ⊢;omega) (by rw [v1];omega)
                  have hno:¬ bdH lw fw lm fm n ls f r nc fc (soN nc b) (soF nc b) (waV lw fw lm fm n ls f r nc fc (soN nc b) (soF nc b) (1+Int.tmod a 2000)-1)≤(1+Int.tmod a 2000):=by
                    rw [d2,v1]
                    rw [v1] at h00
                    have:=i4 (i-1) (by omega)
                    rw [show (((i-1:Nat)):Int)=(i:Int)-1 by omega] at this
                    exact this
                  exact fin (le7 lw fw lm fm n ls f r nc fc b a c hth hs c2 h0 hc c1 ⟨y1,y2⟩ ⟨y3,y4⟩ ⟨y5,y6⟩ (by omega) (by omega) km e1 e2 (by rw [v1];omega) (by rw [v1,v2];omega) (by rw [v1] at h00 ⊢;omega) b0 ord.1 ord.2 top d0 hno)
        · exact fin (le4 lw fw lm fm n ls f r nc fc b a c hth h0 hc)
      · exact fin (le3 lw fw lm fm n ls f r nc fc b a c hth h9 hc)
    · exact fin (le2 lw fw lm fm n ls f r nc fc b a c hth h9)
  · cases hv
end
theorem less_any {W:World} {H:Type} {enc:TypeId×Value→H} {base:Nat} {args:List Value} {ds:List (DataW H)} {p:List MemPlace} (hval:∀ (j:Nat) t v,Tryz.f4.params[j]?=some t→args[j]?=some v→Value.okWide Tryz.prog W .any base t v)
    (hA:DataW.TrodAll enc Tryz.prog W 0 (fun _=>true) true Tryz.f4.params.toList args ds p):Calls Tryz.prog 4 args.toArray W (fun e w'=>e = .returned (.bool true)∧Below W.heap.size W w'):=by
  rw [Tryz.params4] at hA hval
  obtain ⟨x0,a0,d0,_,_,_,rfl,rfl,rfl,u0,hA⟩:=trodAll_cons hA
  obtain ⟨x1,a1,d1,_,_,_,rfl,rfl,rfl,u1,hA⟩:=trodAll_cons hA
  obtain ⟨x2,a2,d2,_,_,_,rfl,rfl,rfl,u2,hA⟩:=trodAll_cons hA
  obtain ⟨x3,a3,d3,_,_,_,rfl,rfl,rfl,u3,hA⟩:=trodAll_cons hA
  obtain ⟨rfl,rfl,rfl⟩:=trodAll_nil hA
  obtain ⟨lw,fw,lm,fm,n,ls,f,r,nc,fc,r0⟩:=store_arg u0
  obtain ⟨n1,r1,b1⟩:=arg_int (P:=Tryz.prog) (k := .u8) (by kernel_rfl) (hval 1 _ x1 rfl rfl) u1
  obtain ⟨n2,r2,b2⟩:=arg_int (P:=Tryz.prog) (k := .u16) (by kernel_rfl) (hval 2 _ x2 rfl rfl) u2
  obtain ⟨n3,r3,b3⟩:=arg_int (P:=Tryz.prog) (k := .u16) (by kernel_rfl) (hval 3 _ x3 rfl rfl) u3
  have hcf:cf valG [.agg 5 (T.setL .lf 0 [.fz true 0 (cellsI .i64 fw) lw 1,.fz true 0 (cellsI .i64 fm) lm 1,.fz true 0 (rowsI 0 1 ls f) n 1,.int .i64 r,.fz true 0 (cellsI .i64 fc) nc 5]),.int .u8 n1,.int .u16 n2,.int .u16 n3] (heap0 1)=some (true,.bool true):=by
    have q1:IntKind.u8.min=0:=by kernel_rfl
    have p1:IntKind.u8.max=255:=by kernel_rfl
    rw [q1,p1] at b1
    have q2:IntKind.u16.min=0:=by kernel_rfl
    have p2:IntKind.u16.max=65535:=by kernel_rfl
    rw [q2,p2] at b2
    have q3:IntKind.u16.min=0:=by kernel_rfl
    have p3:IntKind.u16.max=65535:=by kernel_rfl
    rw [q3,p3] at b3
    have hd:decide (0≤n1∧n1≤255∧0≤n2∧n2≤65535∧0≤n3∧n3≤65535)=true:=decide_eq_true (by omega)
    have e1:okL [.agg 5 (T.setL .lf 0 [.fz true 0 (cellsI .i64 fw) lw 1,.fz true 0 (cellsI .i64 fm) lm 1,.fz true 0 (rowsI 0 1 ls f) n 1,.int .i64 r,.fz true 0 (cellsI .i64 fc) nc 5]),.int .u8 n1,.int .u16 n2,.int .u16 n3]=cond (cond (allI .i64 (cellsI .i64 fw) lw 1) (cond (allI .i64 (cellsI .i64 fm) lm 1) (cond (allR 0 (rowsI 0 1 ls f) n 1) (cond true (cond (allI .i64 (cellsI .i64 fc) nc 5) true false) false) false) false) false) (cond (true) (cond (true) (cond (true) (true) false) false) false) false:=by kernel_rfl
    have e2:cf valG [.agg 5 (T.setL .lf 0 [.fz true 0 (cellsI .i64 fw) lw 1,.fz true 0 (cellsI .i64 fm) lm 1,.fz true 0 (rowsI 0 1 ls f) n 1,.int .i64 r,.fz true 0 (cellsI .i64 fc) nc 5]),.int .u8 n1,.int .u16 n2,.int .u16 n3] (heap0 1)=some (cond (okL [.agg 5 (T.setL .lf 0 [.fz true 0 (cellsI .i64 fw) lw 1,.fz true 0 (cellsI .i64 fm) lm 1,.fz true 0 (rowsI 0 1 ls f) n 1,.int .i64 r,.fz true 0 (cellsI .i64 fc) nc 5]),.int .u8 n1,.int .u16 n2,.int .u16 n3]) (decide (0≤n1∧n1≤255∧0≤n2∧n2≤65535∧0≤n3∧n3≤65535)) false,.bool true):=by kernel_rfl
    rw [e2,e1]
    simp only [allI_cells,allR_rows,cond_true,hd]
  have hs:SpecCall Tryz.prog 4 [.agg 5 (T.setL .lf 0 [.fz true 0 (cellsI .i64 fw) lw 1,.fz true 0 (cellsI .i64 fm) lm 1,.fz true 0 (rowsI 0 1 ls f) n 1,.int .i64 r,.fz true 0 (cellsI .i64 fc) nc 5]),.int .u8 n1,.int .u16 n2,.int .u16 n3] (heap0 1) (.bool true) (bump (heap0 1)):=con_ok conG _ _ _ hcf
  have hal:=al_cons r0 (al_cons r1 (al_cons r2 (al_cons r3 (show AL (renW W) [] ([]:List Value).toArray from AL.nil _))))
  exact (run_args hs hal).mono fun e w' ⟨x,R,h1,h2,h3⟩=>by cases h2;exact ⟨h1,h3⟩
theorem less_lifted (os:Os) (started:os.Started) (H:Type) (enc:TypeId×Value→H) :
    ReturnsInHanded {} Tryz.checked os 4 .any (Rows.proofLessSpec.pre6 enc Tryz.prog Tryz.f4 Rows.proofLessRow.domain false) (Rows.proofLessSpec.post enc Tryz.prog Tryz.f4 false true false false):=by
  refine returnsInHanded_of_change (C:=Tryz.checked) own started (by kernel_rfl) Tryz.func4
    (ChangeSpec.witness6 (enc:=enc) (C:=Tryz.checked) false ⟨#[],#[.agg #[.slice none 0 0,.slice none 0 0,.slice none 0 0,.int .i64 0,.slice none 0 0],.int .u8 0,.int .u16 0,.int .u16 0],[]⟩ 8 (by kernel_rfl) (by kernel_rfl) (by kernel_rfl) (by kernel_rfl)) ?_
  intro W base args ds gs before hval0 hW hcnd _
  have hW':=hW
  obtain ⟨p,q,hA0,hV,rfl,hfz,hnd⟩:=hW
  have hval:∀ (j:Nat) t v,Tryz.f4.params[j]?=some t→args.toList[j]?=some v→Value.okWide Tryz.prog W .any base t v:=fun j t v h1 h2=>hval0 j t v h1 (by simpa using h2)
  have h:=less_any (args:=args.toList) hval hA0
  rw [show args.toList.toArray=args by simp] at h
  have hds:∃ da db dc dd,ds=[da,db,dc,dd]:=by
    rw [Tryz.params4] at hA0
    obtain ⟨x0,a0,d0,_,_,_,_,rfl,_,_,hA0⟩:=trodAll_cons hA0
    obtain ⟨x1,a1,d1,_,_,_,_,rfl,_,_,hA0⟩:=trodAll_cons hA0
    obtain ⟨x2,a2,d2,_,_,_,_,rfl,_,_,hA0⟩:=trodAll_cons hA0
    obtain ⟨x3,a3,d3,_,_,_,_,rfl,_,_,hA⟩:=trodAll_cons hA0
    obtain ⟨_,rfl,_⟩:=trodAll_nil hA
    exact ⟨_,_,_,_,rfl⟩
  obtain ⟨da,db,dc,dd,rfl⟩:=hds
  refine h.mono fun e W' ⟨he,hb⟩=>?_
  exact ⟨_,he,Law.law_post laidOut (tb:=4) (by kernel_rfl) Tryz.underlying4 (fun t ht=>by
    rw [Tryz.params4] at ht
    have ht:t∈[28,5,48,48]:=ht
    simp only [List.mem_cons,List.not_mem_nil,or_false] at ht
    rcases ht with rfl | rfl | rfl | rfl<;>exact ⟨by kernel_rfl,of_decide_eq_true (by kernel_rfl)⟩) rfl hW' rfl rfl rfl hb⟩
theorem proofLess_holds:Rows.ProofLessSaid :=
  OpenClaim.holds_of_wide 4 Tryz.f4 rfl rfl rfl rfl rfl rfl rfl ⟨rfl,rfl,rfl,rfl,rfl⟩ rfl rfl rfl rfl rfl (by kernel_rfl) Tryz.func4 (by kernel_rfl)
    (of_decide_eq_true (by kernel_rfl)) (by unfold Func.isWrapper;first | (rw [if_pos (by decide +kernel)];kernel_rfl) | (rw [if_neg (by decide +kernel)];exact ⟨rfl,rfl⟩))
    (fun os started H enc _=>less_lifted os started H enc)
end BL
theorem proofLess_holds:Rows.ProofLessSaid:=BL.proofLess_holds
end Go.Proofs.YtclagbonpachfaaGreat
