/- ProofWaters: for every input the law returns true: the water for any strength is found gallon by gallon, or the error is. No condition. -/
import Derived.Test.YtclagbonpachfaaGreatRows
import Derived.WalkKit
import Derived.Test.YtclagbonpachfaaGreatYPrW3
import Derived.Test.YtclagbonpachfaaGreatYPrE4
import Derived.Test.YtclagbonpachfaaGreatYPrArg
import Derived.Test.YtclagbonpachfaaGreatYEd
set_option linter.all false
set_option linter.unusedSimpArgs false
set_option linter.unusedVariables false
namespace Go.Proofs.YtclagbonpachfaaGreat
namespace BL
open Go Go.Ev Go.ChangeShapes Go.WideShapes Go.ChangeAt Go.RowKit
set_option maxRecDepth 1000000
noncomputable section
theorem rp_wp {nc k:Nat} {fc l t:Nat→Nat→Int} {x h0 h1 h2 h3 h4 h5:Int} (hl:∀ i,i<k→0≤l i 0∧l i 0<nc) (hs:∀ j,j<nc→selI [h0,h1,h2,h3,h4,h5] (Int.ofNat j)=t j 0):rpB fc k l t x=wpB fc k l x h0 h1 h2 h3 h4 h5:=by
  funext i
  unfold rpB wpB
  rw [rs_bl hl hs]
theorem rw_wf {nc k:Nat} {fc l t:Nat→Nat→Int} {x h0 h1 h2 h3 h4 h5:Int} (hl:∀ i,i<k→0≤l i 0∧l i 0<nc) (hs:∀ j,j<nc→selI [h0,h1,h2,h3,h4,h5] (Int.ofNat j)=t j 0):rwB fc k l t x=wfB fc k l x h0 h1 h2 h3 h4 h5∧rwI fc k l t x=wfI fc k l x h0 h1 h2 h3 h4 h5:=by
  have e:=rp_wp (x:=x) (fc:=fc) hl hs
  unfold rwB rwI wfI
  unfold rwB wfB rwN wfN
  rw [e]
  exact ⟨rfl,rfl⟩
def valG:Val:=fun das=>match das with
  | [.st [.sl 1 lw fw,.sl 1 lm fm,.rr 1 n ls f,.i .i64 r,.sl 5 nc fc],.one (.sl 1 k l),.one (.i .i64 x)]=>some (true,.bool true)
  | _=>none
theorem conG:Con Tryz.prog 3 valG:=by
  intro das v hv
  unfold valG at hv
  split at hv
  · rename_i lw fw lm fm n ls f r nc fc k l x
    have hv:=congrArg Prod.snd (Option.some.inj hv)
    subst hv
    have fin:∀ {h:HT},VC (runD0 Tryz.prog XP 600 3 (enc [.st [.sl 1 lw fw,.sl 1 lm fm,.rr 1 n ls f,.i .i64 r,.sl 5 nc fc],.one (.sl 1 k l),.one (.i .i64 x)] 0) 5 (fun v=>valP v (.bool true))) h→flatV (.bool true)=true∧∃ v' H',SpecCall Tryz.prog 3 (enc [.st [.sl 1 lw fw,.sl 1 lm fm,.rr 1 n ls f,.i .i64 r,.sl 5 nc fc],.one (.sl 1 k l),.one (.i .i64 x)] 0) (heap0 6) v' H'∧valP v' (.bool true):=fun hvc =>
      con_runV drawnC XP_ok rfl (das:=[.st [.sl 1 lw fw,.sl 1 lm fm,.rr 1 n ls f,.i .i64 r,.sl 5 nc fc],.one (.sl 1 k l),.one (.i .i64 x)]) hvc
    cases hth:thB lw lm n ls with
    | false=>exact fin (ww1 lw fw lm fm n ls f r nc fc k l x hth)
    | true =>
    have hs:=th_sm hth
    by_cases h9:nc≤9
    · by_cases h10:k≤9
      · rcases waE_cases lw fw lm fm n ls f r nc fc k l x with ⟨hc,e⟩ | ⟨hc,h4,e⟩ | ⟨hc,h4,h5,e⟩ | ⟨hc,h4,h5,h6,e⟩ | ⟨hc,h4,h5,h6,h7,e⟩ | ⟨hc,h4,h5,h6,h7,e⟩
        · exact fin (ww3 lw fw lm fm n ls f r nc fc k l x hth hs h9 h10 hc e (waV_0 lw fw lm fm n ls f r nc fc k l x e hc))
        · obtain ⟨c1,c2,c3⟩:=ck_hyp lw fw lm fm n ls f r nc fc hc
          exact fin (ww4 lw fw lm fm n ls f r nc fc k l x hth hs c2 h10 hc c1 c3 h4 e (waV_0 lw fw lm fm n ls f r nc fc k l x e (by decide)))
        · obtain ⟨c1,c2,c3⟩:=ck_hyp lw fw lm fm n ls f r nc fc hc
          exact fin (ww5 lw fw lm fm n ls f r nc fc k l x hth hs c2 h10 hc c1 c3 h4 h5 e (waV_0 lw fw lm fm n ls f r nc fc k l x e (by decide)))
        · obtain ⟨c1,c2,c3⟩:=ck_hyp lw fw lm fm n ls f r nc fc hc
          exact fin (ww9 lw fw lm fm n ls f r nc fc k l x hth hs c2 h10 hc c1 c3 h4 h5 h6 e (waV_0 lw fw lm fm n ls f r nc fc k l x e (by decide)))
        all_goals
          obtain ⟨c1,c2,c3⟩:=ck_hyp lw fw lm fm n ls f r nc fc hc
          have ok:=ckE_get lw fw lm fm n ls f r nc fc hc
          obtain ⟨hk,hl⟩:=hb_get h4
          have ho:rwO nc fc k l nc (stF lw fw lm fm f fc)=true:=cond_mk (ble_mk c2) (allN_true fun i hi=>rs_ok lw fw lm fm n ls f r nc fc k l ok h4 (by omega) (by omega) (by omega) (fun j hj=>by
            have q:=st_bd lw fw lm fm n ls f r nc fc ok hj
            have q:0≤loS lw fw lm fm f fc j∧loS lw fw lm fm f fc j≤tpG (stF lw fw lm fm f fc) j 0∧tpG (stF lw fw lm fm f fc) j 0≤2000:=q
            omega))
          obtain ⟨r1,r2⟩:=rw_wf (x:=x) (fc:=fc) (t:=tpG (stF lw fw lm fm f fc)) hl (fun j hj=>hi_sel c2 hj)
        · exact fin (ww6 lw fw lm fm n ls f r nc fc k l x hth hs c2 h10 hc c1 c3 h4 h5 h6 ho (by rw [r1];exact h7) e (waV_0 lw fw lm fm n ls f r nc fc k l x e (by decide)))
        · exact fin (ww7 lw fw lm fm n ls f r nc fc k l x hth hs c2 h10 hc c1 c3 h4 h5 h6 ho (by rw [r1];exact h7) e (by rw [r2];unfold waV;rw [e];rfl))
      · exact fin (ww8 lw fw lm fm n ls f r nc fc k l x hth h9 h10)
    · exact fin (ww2 lw fw lm fm n ls f r nc fc k l x hth h9)
  · cases hv
end
theorem waters_any {W:World} {H:Type} {enc:TypeId×Value→H} {base:Nat} {args:List Value} {ds:List (DataW H)} {p:List MemPlace} (hval:∀ (j:Nat) t v,Tryz.f3.params[j]?=some t→args[j]?=some v→Value.okWide Tryz.prog W .any base t v)
    (hA:DataW.TrodAll enc Tryz.prog W 0 (fun _=>true) true Tryz.f3.params.toList args ds p):Calls Tryz.prog 3 args.toArray W (fun e w'=>e = .returned (.bool true)∧Below W.heap.size W w'):=by
  rw [Tryz.params3] at hA hval
  obtain ⟨x0,a0,d0,_,_,_,rfl,rfl,rfl,u0,hA⟩:=trodAll_cons hA
  obtain ⟨x1,a1,d1,_,_,_,rfl,rfl,rfl,u1,hA⟩:=trodAll_cons hA
  obtain ⟨x2,a2,d2,_,_,_,rfl,rfl,rfl,u2,hA⟩:=trodAll_cons hA
  obtain ⟨rfl,rfl,rfl⟩:=trodAll_nil hA
  obtain ⟨lw,fw,lm,fm,n,ls,f,r,nc,fc,r0⟩:=store_arg u0
  obtain ⟨k1,t1,r1⟩:=ints_arg (hval 1 _ x1 rfl rfl) u1
  obtain ⟨n2,r2,b2⟩:=arg_int (P:=Tryz.prog) (k := .i64) (by kernel_rfl) (hval 2 _ x2 rfl rfl) u2
  have hcf:cf valG [.agg 5 (T.setL .lf 0 [.fz true 0 (cellsI .i64 fw) lw 1,.fz true 0 (cellsI .i64 fm) lm 1,.fz true 0 (rowsI 0 1 ls f) n 1,.int .i64 r,.fz true 0 (cellsI .i64 fc) nc 5]),.fz true 0 (cellsI .i64 t1) k1 1,.int .i64 n2] (heap0 1)=some (true,.bool true):=by
    have e1:okL [.agg 5 (T.setL .lf 0 [.fz true 0 (cellsI .i64 fw) lw 1,.fz true 0 (cellsI .i64 fm) lm 1,.fz true 0 (rowsI 0 1 ls f) n 1,.int .i64 r,.fz true 0 (cellsI .i64 fc) nc 5]),.fz true 0 (cellsI .i64 t1) k1 1,.int .i64 n2]=cond (cond (allI .i64 (cellsI .i64 fw) lw 1) (cond (allI .i64 (cellsI .i64 fm) lm 1) (cond (allR 0 (rowsI 0 1 ls f) n 1) (cond true (cond (allI .i64 (cellsI .i64 fc) nc 5) true false) false) false) false) false) (cond (allI .i64 (cellsI .i64 t1) k1 1) (cond (true) (true) false) false) false:=by kernel_rfl
    have e2:cf valG [.agg 5 (T.setL .lf 0 [.fz true 0 (cellsI .i64 fw) lw 1,.fz true 0 (cellsI .i64 fm) lm 1,.fz true 0 (rowsI 0 1 ls f) n 1,.int .i64 r,.fz true 0 (cellsI .i64 fc) nc 5]),.fz true 0 (cellsI .i64 t1) k1 1,.int .i64 n2] (heap0 1)=some (cond (okL [.agg 5 (T.setL .lf 0 [.fz true 0 (cellsI .i64 fw) lw 1,.fz true 0 (cellsI .i64 fm) lm 1,.fz true 0 (rowsI 0 1 ls f) n 1,.int .i64 r,.fz true 0 (cellsI .i64 fc) nc 5]),.fz true 0 (cellsI .i64 t1) k1 1,.int .i64 n2]) (true) false,.bool true):=by kernel_rfl
    rw [e2,e1]
    simp only [allI_cells,allR_rows,cond_true]
  have hs:SpecCall Tryz.prog 3 [.agg 5 (T.setL .lf 0 [.fz true 0 (cellsI .i64 fw) lw 1,.fz true 0 (cellsI .i64 fm) lm 1,.fz true 0 (rowsI 0 1 ls f) n 1,.int .i64 r,.fz true 0 (cellsI .i64 fc) nc 5]),.fz true 0 (cellsI .i64 t1) k1 1,.int .i64 n2] (heap0 1) (.bool true) (bump (heap0 1)):=con_ok conG _ _ _ hcf
  have hal:=al_cons r0 (al_cons r1 (al_cons r2 (show AL (renW W) [] ([]:List Value).toArray from AL.nil _)))
  exact (run_args hs hal).mono fun e w' ⟨x,R,h1,h2,h3⟩=>by cases h2;exact ⟨h1,h3⟩
theorem waters_lifted (os:Os) (started:os.Started) (H:Type) (enc:TypeId×Value→H) :
    ReturnsInHanded {} Tryz.checked os 3 .any (Rows.proofWatersSpec.pre6 enc Tryz.prog Tryz.f3 Rows.proofWatersRow.domain false) (Rows.proofWatersSpec.post enc Tryz.prog Tryz.f3 false true false false):=by
  refine returnsInHanded_of_change (C:=Tryz.checked) own started (by kernel_rfl) Tryz.func3
    (ChangeSpec.witness6 (enc:=enc) (C:=Tryz.checked) false ⟨#[],#[.agg #[.slice none 0 0,.slice none 0 0,.slice none 0 0,.int .i64 0,.slice none 0 0],.slice none 0 0,.int .i64 0],[]⟩ 8 (by kernel_rfl) (by kernel_rfl) (by kernel_rfl) (by kernel_rfl)) ?_
  intro W base args ds gs before hval0 hW hcnd _
  have hW':=hW
  obtain ⟨p,q,hA0,hV,rfl,hfz,hnd⟩:=hW
  have hval:∀ (j:Nat) t v,Tryz.f3.params[j]?=some t→args.toList[j]?=some v→Value.okWide Tryz.prog W .any base t v:=fun j t v h1 h2=>hval0 j t v h1 (by simpa using h2)
  have h:=waters_any (args:=args.toList) hval hA0
  rw [show args.toList.toArray=args by simp] at h
  have hds:∃ da db dc,ds=[da,db,dc]:=by
    rw [Tryz.params3] at hA0
    obtain ⟨x0,a0,d0,_,_,_,_,rfl,_,_,hA0⟩:=trodAll_cons hA0
    obtain ⟨x1,a1,d1,_,_,_,_,rfl,_,_,hA0⟩:=trodAll_cons hA0
    obtain ⟨x2,a2,d2,_,_,_,_,rfl,_,_,hA⟩:=trodAll_cons hA0
    obtain ⟨_,rfl,_⟩:=trodAll_nil hA
    exact ⟨_,_,_,rfl⟩
  obtain ⟨da,db,dc,rfl⟩:=hds
  refine h.mono fun e W' ⟨he,hb⟩=>?_
  exact ⟨_,he,Law.law_post laidOut (tb:=4) (by kernel_rfl) Tryz.underlying4 (fun t ht=>by
    rw [Tryz.params3] at ht
    have ht:t∈[28,22,3]:=ht
    simp only [List.mem_cons,List.not_mem_nil,or_false] at ht
    rcases ht with rfl | rfl | rfl<;>exact ⟨by kernel_rfl,of_decide_eq_true (by kernel_rfl)⟩) rfl hW' rfl rfl rfl hb⟩
theorem proofWaters_holds:Rows.ProofWatersSaid :=
  OpenClaim.holds_of_wide 3 Tryz.f3 rfl rfl rfl rfl rfl rfl rfl ⟨rfl,rfl,rfl,rfl,rfl⟩ rfl rfl rfl rfl rfl (by kernel_rfl) Tryz.func3 (by kernel_rfl)
    (of_decide_eq_true (by kernel_rfl)) (by unfold Func.isWrapper;first | (rw [if_pos (by decide +kernel)];kernel_rfl) | (rw [if_neg (by decide +kernel)];exact ⟨rfl,rfl⟩))
    (fun os started H enc _=>waters_lifted os started H enc)
end BL
theorem proofWaters_holds:Rows.ProofWatersSaid:=BL.proofWaters_holds
end Go.Proofs.YtclagbonpachfaaGreat
