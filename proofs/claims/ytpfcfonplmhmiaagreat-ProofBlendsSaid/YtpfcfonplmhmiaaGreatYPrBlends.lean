/- ProofBlends: for every input the law returns true: the bounds of the strength of any blend, and whether it surely is in any range, are as all truths give them, or the error is. No condition. -/
import Derived.Test.YtpfcfonplmhmiaaGreatRows
import Derived.WalkKit
import Derived.Test.YtpfcfonplmhmiaaGreatYPrB2
import Derived.Test.YtpfcfonplmhmiaaGreatYPrE4
import Derived.Test.YtpfcfonplmhmiaaGreatYPrArg
import Derived.Test.YtpfcfonplmhmiaaGreatYEd
set_option linter.all false
set_option linter.unusedSimpArgs false
set_option linter.unusedVariables false
namespace Go.Proofs.YtpfcfonplmhmiaaGreat
namespace BL
open Go Go.Ev Go.ChangeShapes Go.WideShapes Go.ChangeAt Go.RowKit PD
set_option maxRecDepth 1000000
noncomputable section
theorem rg4_arg {W:World} {H:Type} {enc:TypeId×Value→H} {sp:Nat→Bool} {x:Value} {d:DataW H} {ps:List MemPlace} (h:DataW.Trod enc Tryz.prog W 0 sp true 56 x d ps) :
    ∃ lo hi,VR (renW W) (.agg 2 (T.setL .lf 0 [.int .i64 lo,.int .i64 hi])) x:=by
  have ht:flatTy Tryz.prog 8 56=[3,3]:=by kernel_rfl
  obtain ⟨fs,hu⟩:∃ fs,Tryz.prog.underlying 56=some (.struct fs):=⟨_,Tryz.underlying56⟩
  obtain ⟨vs,h1,h2,h3⟩:=arg_struct (P:=Tryz.prog) (t:=56) (n:=2) (by kernel_rfl) hu (by kernel_rfl) (by rw [ht];rfl) (by decide) h
  match vs,h1,h2,h3 with
  | [v0,v1],_,h2,h3 =>
    have i3:Tryz.prog.underlying 3=some (.int .i64):=Tryz.underlying3
    obtain ⟨lo,rfl,_⟩:=ShC_int i3 (h3 0 (by simp) 3 (by rw [ht];rfl))
    obtain ⟨hi,rfl,_⟩:=ShC_int i3 (h3 1 (by simp) 3 (by rw [ht];rfl))
    exact ⟨lo,hi,h2⟩
theorem bd_two (lw:Nat) (fw:Nat→Nat→Int) (lm:Nat) (fm:Nat→Nat→Int) (n:Nat) (ls:Nat→Nat) (f:Nat→Nat→Nat→Int) (r:Int) (nc:Nat) (fc:Nat→Nat→Int) (k:Nat) (l:Nat→Nat→Int) (w e:Int) (h:bdE lw fw lm fm n ls f r nc fc k l w=e) (he:e≠0):bdL lw fw lm fm n ls f r nc fc k l w=0∧bdH lw fw lm fm n ls f r nc fc k l w=0:=by
  unfold bdL bdH
  rw [h,(iEq_f _ _).mpr he];exact ⟨rfl,rfl⟩
def valG:Val:=fun das=>match das with
  | [.st [.sl 1 lw fw,.sl 1 lm fm,.rr 1 n ls f,.i .i64 r,.sl 5 nc fc],.one (.sl 1 k l),.one (.i .i64 w),.st [.i .i64 lo,.i .i64 hi]]=>some (true,.bool true)
  | _=>none
theorem conG:Con Tryz.prog 6 valG:=by
  intro das x hv
  unfold valG at hv
  split at hv
  · rename_i lw fw lm fm n ls f r nc fc k l w lo hi
    have hv:=congrArg Prod.snd (Option.some.inj hv)
    subst hv
    have fin:∀ {h:HT},VC (runD0 Tryz.prog XP 600 6 (enc [.st [.sl 1 lw fw,.sl 1 lm fm,.rr 1 n ls f,.i .i64 r,.sl 5 nc fc],.one (.sl 1 k l),.one (.i .i64 w),.st [.i .i64 lo,.i .i64 hi]] 0) 5 (fun v=>valP v (.bool true))) h→flatV (.bool true)=true∧∃ v' H',SpecCall Tryz.prog 6 (enc [.st [.sl 1 lw fw,.sl 1 lm fm,.rr 1 n ls f,.i .i64 r,.sl 5 nc fc],.one (.sl 1 k l),.one (.i .i64 w),.st [.i .i64 lo,.i .i64 hi]] 0) (heap0 6) v' H'∧valP v' (.bool true):=fun hvc =>
      con_runV drawnC XP_ok rfl (das:=[.st [.sl 1 lw fw,.sl 1 lm fm,.rr 1 n ls f,.i .i64 r,.sl 5 nc fc],.one (.sl 1 k l),.one (.i .i64 w),.st [.i .i64 lo,.i .i64 hi]]) hvc
    cases hth:thB lw lm n ls with
    | false=>exact fin (qb1 lw fw lm fm n ls f r nc fc k l w lo hi hth)
    | true =>
    have hs:=th_sm hth
    have hmo:moB 1000=true:=moB_t.mpr (by omega)
    by_cases h9:nc≤9∧k≤9
    · by_cases hc:ckE lw fw lm fm n ls f r nc fc=0
      · have ok:=ckE_get lw fw lm fm n ls f r nc fc hc
        obtain ⟨c1,c2,c3⟩:=ck_hyp lw fw lm fm n ls f r nc fc hc
        have hz:szA (stF lw fw lm fm f fc) nc=true:=allN_true fun i hi=>by
          have:=st_bd lw fw lm fm n ls f r nc fc ok hi
          exact szB_t.mpr this
        by_cases hm:maI nc (stF lw fw lm fm f fc) 1000≤1000
        · cases hb:hbB nc l k with
          | false =>
            have b0:bdE lw fw lm fm n ls f r nc fc k l w=2:=by unfold bdE;rw [hc,hb];rfl
            obtain ⟨b1,b2⟩:=bd_two lw fw lm fm n ls f r nc fc k l w 2 b0 (by decide)
            exact fin (qb5 lw fw lm fm n ls f r nc fc k l w lo hi hth hs c2 h9.2 hc c1 c3 hz hmo hm hb b0 b1 b2)
          | true =>
            by_cases hw:0≤w∧w≤99
            · obtain ⟨b0,b1,b2⟩:=bd_so lw fw lm fm n ls f r nc fc k l hc hb hw.1 hw.2
              obtain ⟨hk,hl⟩:=hb_get hb
              have hga:gaOk nc fc k l=true:=cond_mk (ble_mk (by omega)) (cond_mk (ble_mk c2) (allN_true fun i hi=>by
                have a:=hl i hi
                have c:=(ok.cask (Int.toNat (l i 0)) (by omega)).1
                exact cond_mk (by rw [iIn_t];exact a) (cond_mk (by rw [iLe_t];exact c.1) (by rw [iLe_t];exact c.2))))
              have hr:rbB nc fc nc (stF lw fw lm fm f fc) k l w=true:=cond_mk (ble_mk c2) (cond_mk hz (cond_mk hga (cond_mk (blt_t' hk) (cond_mk ((iLe_t _ _).mpr hw.1) (cond_mk ((iLe_t _ _).mpr (by omega)) (cond_mk (allN_true fun i hi=>(iIn_t _ _).mpr (hl i hi)) ((iLe_t _ _).mpr hm)))))))
              have e1:rsV fc l w (loG (stF lw fw lm fm f fc)) k=blV fc l w (loV lw fw lm fm f nc fc 0) (loV lw fw lm fm f nc fc 1) (loV lw fw lm fm f nc fc 2) (loV lw fw lm fm f nc fc 3) (loV lw fw lm fm f nc fc 4) (loV lw fw lm fm f nc fc 5) k:=rs_bl (t:=loG (stF lw fw lm fm f fc)) hl (fun j hj=>lo_sel c2 hj)
              have e2:rsV fc l w (hiG (stF lw fw lm fm f fc)) k=blV fc l w (hiV lw fw lm fm f nc fc 0) (hiV lw fw lm fm f nc fc 1) (hiV lw fw lm fm f nc fc 2) (hiV lw fw lm fm f nc fc 3) (hiV lw fw lm fm f nc fc 4) (hiV lw fw lm fm f nc fc 5) k:=rs_bl (t:=hiG (stF lw fw lm fm f fc)) hl (fun j hj=>hi_sel c2 hj)
              have mo:=rs_mono (s:=loG (stF lw fw lm fm f fc)) (t:=hiG (stF lw fw lm fm f fc)) hga hk hw.1 hl (fun j hj=>st_bd lw fw lm fm n ls f r nc fc ok hj)
              exact fin (qb7 lw fw lm fm n ls f r nc fc k l w lo hi hth hs c2 h9.2 hc c1 c3 hz hmo hm hb hw hr b0 (by rw [b1,e1]) (by rw [b2,e2]) mo.1)
            · have b0:bdE lw fw lm fm n ls f r nc fc k l w=2:=by
                unfold bdE;rw [hc,hb]
                by_cases q:0≤w
                · rw [(iLe_t 0 w).mpr q,(iLe_f w 99).mpr (by omega)];rfl
                · rw [(iLe_f 0 w).mpr (by omega)];rfl
              obtain ⟨b1,b2⟩:=bd_two lw fw lm fm n ls f r nc fc k l w 2 b0 (by decide)
              exact fin (qb6 lw fw lm fm n ls f r nc fc k l w lo hi hth hs c2 h9.2 hc c1 c3 hz hmo hm hb hw b0 b1 b2)
        · exact fin (qb4 lw fw lm fm n ls f r nc fc k l w lo hi hth hs c2 h9.2 hc c1 c3 hz hmo hm)
      · have b0:bdE lw fw lm fm n ls f r nc fc k l w=ckE lw fw lm fm n ls f r nc fc:=by unfold bdE;rw [(iEq_f _ _).mpr hc];rfl
        obtain ⟨b1,b2⟩:=bd_two lw fw lm fm n ls f r nc fc k l w _ b0 hc
        exact fin (qb3 lw fw lm fm n ls f r nc fc k l w lo hi hth hs h9.1 h9.2 hc hmo b0 b1 b2)
    · by_cases hn:nc≤9
      · exact fin (qb8 lw fw lm fm n ls f r nc fc k l w lo hi hth hn (fun q=>h9 ⟨hn,q⟩))
      · exact fin (qb2 lw fw lm fm n ls f r nc fc k l w lo hi hth hn)
  · cases hv
end
theorem blends_any {W:World} {H:Type} {enc:TypeId×Value→H} {base:Nat} {args:List Value} {ds:List (DataW H)} {p:List MemPlace} (hval:∀ (j:Nat) t v,Tryz.f6.params[j]?=some t→args[j]?=some v→Value.okWide Tryz.prog W .any base t v)
    (hA:DataW.TrodAll enc Tryz.prog W 0 (fun _=>true) true Tryz.f6.params.toList args ds p):Calls Tryz.prog 6 args.toArray W (fun e w'=>e = .returned (.bool true)∧Below W.heap.size W w'):=by
  rw [Tryz.params6] at hA hval
  obtain ⟨x0,a0,d0,_,_,_,rfl,rfl,rfl,u0,hA⟩:=trodAll_cons hA
  obtain ⟨x1,a1,d1,_,_,_,rfl,rfl,rfl,u1,hA⟩:=trodAll_cons hA
  obtain ⟨x2,a2,d2,_,_,_,rfl,rfl,rfl,u2,hA⟩:=trodAll_cons hA
  obtain ⟨x3,a3,d3,_,_,_,rfl,rfl,rfl,u3,hA⟩:=trodAll_cons hA
  obtain ⟨rfl,rfl,rfl⟩:=trodAll_nil hA
  obtain ⟨lw,fw,lm,fm,n,ls,f,r,nc,fc,r0⟩:=store_arg u0
  obtain ⟨k1,t1,r1⟩:=ints_arg (hval 1 _ x1 rfl rfl) u1
  obtain ⟨n2,r2,b2⟩:=arg_int (P:=Tryz.prog) (k := .i64) (by kernel_rfl) (hval 2 _ x2 rfl rfl) u2
  obtain ⟨lo3,hi3,r3⟩:=rg4_arg u3
  have hcf:cf valG [.agg 5 (T.setL .lf 0 [.fz true 0 (cellsI .i64 fw) lw 1,.fz true 0 (cellsI .i64 fm) lm 1,.fz true 0 (rowsI 0 1 ls f) n 1,.int .i64 r,.fz true 0 (cellsI .i64 fc) nc 5]),.fz true 0 (cellsI .i64 t1) k1 1,.int .i64 n2,.agg 2 (T.setL .lf 0 [.int .i64 lo3,.int .i64 hi3])] (heap0 1)=some (true,.bool true):=by
    have e1:okL [.agg 5 (T.setL .lf 0 [.fz true 0 (cellsI .i64 fw) lw 1,.fz true 0 (cellsI .i64 fm) lm 1,.fz true 0 (rowsI 0 1 ls f) n 1,.int .i64 r,.fz true 0 (cellsI .i64 fc) nc 5]),.fz true 0 (cellsI .i64 t1) k1 1,.int .i64 n2,.agg 2 (T.setL .lf 0 [.int .i64 lo3,.int .i64 hi3])]=cond (cond (allI .i64 (cellsI .i64 fw) lw 1) (cond (allI .i64 (cellsI .i64 fm) lm 1) (cond (allR 0 (rowsI 0 1 ls f) n 1) (cond true (cond (allI .i64 (cellsI .i64 fc) nc 5) true false) false) false) false) false) (cond (allI .i64 (cellsI .i64 t1) k1 1) (cond (true) (cond (true) (true) false) false) false) false:=by kernel_rfl
    have e2:cf valG [.agg 5 (T.setL .lf 0 [.fz true 0 (cellsI .i64 fw) lw 1,.fz true 0 (cellsI .i64 fm) lm 1,.fz true 0 (rowsI 0 1 ls f) n 1,.int .i64 r,.fz true 0 (cellsI .i64 fc) nc 5]),.fz true 0 (cellsI .i64 t1) k1 1,.int .i64 n2,.agg 2 (T.setL .lf 0 [.int .i64 lo3,.int .i64 hi3])] (heap0 1)=some (cond (okL [.agg 5 (T.setL .lf 0 [.fz true 0 (cellsI .i64 fw) lw 1,.fz true 0 (cellsI .i64 fm) lm 1,.fz true 0 (rowsI 0 1 ls f) n 1,.int .i64 r,.fz true 0 (cellsI .i64 fc) nc 5]),.fz true 0 (cellsI .i64 t1) k1 1,.int .i64 n2,.agg 2 (T.setL .lf 0 [.int .i64 lo3,.int .i64 hi3])]) (true) false,.bool true):=by kernel_rfl
    rw [e2,e1]
    simp only [allI_cells,allR_rows,cond_true]
  have hs:SpecCall Tryz.prog 6 [.agg 5 (T.setL .lf 0 [.fz true 0 (cellsI .i64 fw) lw 1,.fz true 0 (cellsI .i64 fm) lm 1,.fz true 0 (rowsI 0 1 ls f) n 1,.int .i64 r,.fz true 0 (cellsI .i64 fc) nc 5]),.fz true 0 (cellsI .i64 t1) k1 1,.int .i64 n2,.agg 2 (T.setL .lf 0 [.int .i64 lo3,.int .i64 hi3])] (heap0 1) (.bool true) (bump (heap0 1)):=con_ok conG _ _ _ hcf
  have hal:=al_cons r0 (al_cons r1 (al_cons r2 (al_cons r3 (show AL (renW W) [] ([]:List Value).toArray from AL.nil _))))
  exact (run_args hs hal).mono fun e w' ⟨x,R,h1,h2,h3⟩=>by cases h2;exact ⟨h1,h3⟩
theorem blends_lifted (os:Os) (started:os.Started) (H:Type) (enc:TypeId×Value→H) :
    ReturnsInHanded {} Tryz.checked os 6 .any (Rows.proofBlendsSpec.pre6 enc Tryz.prog Tryz.f6 Rows.proofBlendsRow.domain false) (Rows.proofBlendsSpec.post enc Tryz.prog Tryz.f6 false true false false):=by
  refine returnsInHanded_of_change (C:=Tryz.checked) own started (by kernel_rfl) Tryz.func6
    (ChangeSpec.witness6 (enc:=enc) (C:=Tryz.checked) false ⟨#[],#[.agg #[.slice none 0 0,.slice none 0 0,.slice none 0 0,.int .i64 0,.slice none 0 0],.slice none 0 0,.int .i64 0,.agg #[.int .i64 0,.int .i64 0]],[]⟩ 8 (by kernel_rfl) (by kernel_rfl) (by kernel_rfl) (by kernel_rfl)) ?_
  intro W base args ds gs before hval0 hW hcnd _
  have hW':=hW
  obtain ⟨p,q,hA0,hV,rfl,hfz,hnd⟩:=hW
  have hval:∀ (j:Nat) t v,Tryz.f6.params[j]?=some t→args.toList[j]?=some v→Value.okWide Tryz.prog W .any base t v:=fun j t v h1 h2=>hval0 j t v h1 (by simpa using h2)
  have h:=blends_any (args:=args.toList) hval hA0
  rw [show args.toList.toArray=args by simp] at h
  have hds:∃ da db dc dd,ds=[da,db,dc,dd]:=by
    rw [Tryz.params6] at hA0
    obtain ⟨x0,a0,d0,_,_,_,_,rfl,_,_,hA0⟩:=trodAll_cons hA0
    obtain ⟨x1,a1,d1,_,_,_,_,rfl,_,_,hA0⟩:=trodAll_cons hA0
    obtain ⟨x2,a2,d2,_,_,_,_,rfl,_,_,hA0⟩:=trodAll_cons hA0
    obtain ⟨x3,a3,d3,_,_,_,_,rfl,_,_,hA⟩:=trodAll_cons hA0
    obtain ⟨_,rfl,_⟩:=trodAll_nil hA
    exact ⟨_,_,_,_,rfl⟩
  obtain ⟨da,db,dc,dd,rfl⟩:=hds
  refine h.mono fun e W' ⟨he,hb⟩=>?_
  exact ⟨_,he,Law.law_post laidOut (tb:=4) (by kernel_rfl) Tryz.underlying4 (fun t ht=>by
    rw [Tryz.params6] at ht
    have ht:t∈[28,22,3,56]:=ht
    simp only [List.mem_cons,List.not_mem_nil,or_false] at ht
    rcases ht with rfl | rfl | rfl | rfl<;>exact ⟨by kernel_rfl,of_decide_eq_true (by kernel_rfl)⟩) rfl hW' rfl rfl rfl hb⟩
theorem proofBlends_holds:Rows.ProofBlendsSaid :=
  OpenClaim.holds_of_wide 6 Tryz.f6 rfl rfl rfl rfl rfl rfl rfl ⟨rfl,rfl,rfl,rfl,rfl⟩ rfl rfl rfl rfl rfl (by kernel_rfl) Tryz.func6 (by kernel_rfl)
    (of_decide_eq_true (by kernel_rfl)) (by unfold Func.isWrapper;first | (rw [if_pos (by decide +kernel)];kernel_rfl) | (rw [if_neg (by decide +kernel)];exact ⟨rfl,rfl⟩))
    (fun os started H enc _=>blends_lifted os started H enc)
end BL
theorem proofBlends_holds:Rows.ProofBlendsSaid:=BL.proofBlends_holds
end Go.Proofs.YtpfcfonplmhmiaaGreat
