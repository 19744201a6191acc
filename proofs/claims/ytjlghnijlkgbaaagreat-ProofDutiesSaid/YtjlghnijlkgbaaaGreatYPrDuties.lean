/- ProofDuties: for every input the law returns true: the bounds of the duty on all casks are those of all truths, or the error is. No condition. -/
import Derived.Test.YtjlghnijlkgbaaaGreatRows
import Derived.WalkKit
import Derived.Test.YtjlghnijlkgbaaaGreatYPrD3
import Derived.Test.YtjlghnijlkgbaaaGreatYPrArg
import Derived.Test.YtjlghnijlkgbaaaGreatYEd
set_option linter.all false
set_option linter.unusedSimpArgs false
set_option linter.unusedVariables false
namespace Go.Proofs.YtjlghnijlkgbaaaGreat
namespace PD
open Go Go.Ev Go.ChangeShapes Go.WideShapes Go.ChangeAt Go.RowKit
set_option maxRecDepth 1000000
noncomputable section
theorem du_of {fc t : Nat → Nat → Int} {r x0 x1 x2 x3 x4 x5 : Int} {k : Nat} (h : ∀ i, i < k → selI [x0, x1, x2, x3, x4, x5] (Int.ofNat i) = t i 0) : ∀ j, j ≤ k → duF j fc r x0 x1 x2 x3 x4 x5 = duG fc r t j := by
  intro j
  induction j with
  | zero => intro _; rfl
  | succ j ih =>
    intro hj
    have e1 : duF (j + 1) fc r x0 x1 x2 x3 x4 x5 = duF j fc r x0 x1 x2 x3 x4 x5 + Int.tdiv (tnF fc x0 x1 x2 x3 x4 x5 j 0 * r + 9) 10 := rfl
    have e2 : duG fc r t (j + 1) = duG fc r t j + Int.tdiv (tnG fc t j * r + 9) 10 := rfl
    have e3 : tnF fc x0 x1 x2 x3 x4 x5 j 0 = tnG fc t j := by unfold tnF tnG; rw [h j (by omega)]
    rw [e1, e2, ih (by omega), e3]
def valG : Val := fun das => match das with
  | [.st [.sl 1 lw fw, .sl 1 lm fm, .rr 1 n ls f, .i .i64 r, .sl 5 nc fc]] => some (true, .bool true)
  | _ => none
theorem conG : Con Tryz.prog 4 valG := by
  intro das x hv
  unfold valG at hv
  split at hv
  · rename_i lw fw lm fm n ls f r nc fc
    have hv := congrArg Prod.snd (Option.some.inj hv)
    subst hv
    have fin : ∀ {h : HT}, VC (runD0 Tryz.prog XP 600 4 (enc [.st [.sl 1 lw fw, .sl 1 lm fm, .rr 1 n ls f, .i .i64 r, .sl 5 nc fc]] 0) 4 (fun v => valP v (.bool true))) h → flatV (.bool true) = true ∧ ∃ v' H', SpecCall Tryz.prog 4 (enc [.st [.sl 1 lw fw, .sl 1 lm fm, .rr 1 n ls f, .i .i64 r, .sl 5 nc fc]] 0) (heap0 5) v' H' ∧ valP v' (.bool true) := fun hvc =>
      con_runV drawnC XP_ok rfl (das := [.st [.sl 1 lw fw, .sl 1 lm fm, .rr 1 n ls f, .i .i64 r, .sl 5 nc fc]]) hvc
    cases hth : thB lw lm n ls with
    | false => exact fin (db1 lw fw lm fm n ls f r nc fc hth)
    | true =>
    have hs := th_sm hth
    by_cases h9 : nc ≤ 9
    · by_cases hc : ckE lw fw lm fm n ls f r nc fc = 0
      · have ok := ckE_get lw fw lm fm n ls f r nc fc hc
        obtain ⟨c1, c2, c3⟩ := ck_hyp lw fw lm fm n ls f r nc fc hc
        have hz : szA (stF lw fw lm fm f fc) nc = true := allN_true fun i hi => by
          have := st_bd lw fw lm fm n ls f r nc fc ok hi
          exact szB_t.mpr this
        have hmo : moB 1000 = true := moB_t.mpr (by omega)
        by_cases hm : maI nc (stF lw fw lm fm f fc) 1000 ≤ 1000
        · have e1 : dsL lw fw lm fm n ls f r nc fc = duG fc r (loG (stF lw fw lm fm f fc)) nc := by
            have e : dsL lw fw lm fm n ls f r nc fc = duF nc fc r (loV lw fw lm fm f nc fc 0) (loV lw fw lm fm f nc fc 1) (loV lw fw lm fm f nc fc 2) (loV lw fw lm fm f nc fc 3) (loV lw fw lm fm f nc fc 4) (loV lw fw lm fm f nc fc 5) := by unfold dsL; rw [hc]; rfl
            rw [e]
            exact du_of (fun i hi => by rw [lo_sel c2 hi]; rfl) nc (Nat.le_refl _)
          have e2 : dsH lw fw lm fm n ls f r nc fc = duG fc r (hiG (stF lw fw lm fm f fc)) nc := by
            have e : dsH lw fw lm fm n ls f r nc fc = duF nc fc r (hiV lw fw lm fm f nc fc 0) (hiV lw fw lm fm f nc fc 1) (hiV lw fw lm fm f nc fc 2) (hiV lw fw lm fm f nc fc 3) (hiV lw fw lm fm f nc fc 4) (hiV lw fw lm fm f nc fc 5) := by unfold dsH; rw [hc]; rfl
            rw [e]
            exact du_of (fun i hi => by rw [hi_sel c2 hi]; rfl) nc (Nat.le_refl _)
          have hd : drB nc nc (stF lw fw lm fm f fc) fc r = true := cond_mk (ble_mk c2) (cond_mk (Nat.beq_refl nc) (cond_mk hz (cond_mk (raB_t.mpr ok.rate) (cond_mk (allN_true fun i hi => gaB_t.mpr (ok.cask i hi).1) ((iLe_t _ _).mpr hm)))))
          exact fin (db5 lw fw lm fm n ls f r nc fc hth hs c2 hc c1 c3 hz hmo hm hd e1 e2)
        · exact fin (db4 lw fw lm fm n ls f r nc fc hth hs c2 hc c1 c3 hz hmo hm)
      · have e1 : dsL lw fw lm fm n ls f r nc fc = 0 := by unfold dsL; rw [(iEq_f _ _).mpr hc]; rfl
        have e2 : dsH lw fw lm fm n ls f r nc fc = 0 := by unfold dsH; rw [(iEq_f _ _).mpr hc]; rfl
        exact fin (db3 lw fw lm fm n ls f r nc fc hth hs h9 hc e1 e2)
    · exact fin (db2 lw fw lm fm n ls f r nc fc hth h9)
  · cases hv
end
theorem duties_any {W : World} {H : Type} {enc : TypeId × Value → H} {base : Nat} {args : List Value} {ds : List (DataW H)} {p : List MemPlace} (hval : ∀ (j : Nat) t v, Tryz.f4.params[j]? = some t → args[j]? = some v → Value.okWide Tryz.prog W .any base t v)
    (hA : DataW.TrodAll enc Tryz.prog W 0 (fun _ => true) true Tryz.f4.params.toList args ds p) : Calls Tryz.prog 4 args.toArray W (fun e w' => e = .returned (.bool true) ∧ Below W.heap.size W w') := by
  rw [Tryz.params4] at hA hval
  obtain ⟨x0, a0, d0, _, _, _, rfl, rfl, rfl, u0, hA⟩ := trodAll_cons hA
  obtain ⟨rfl, rfl, rfl⟩ := trodAll_nil hA
  obtain ⟨lw, fw, lm, fm, n, ls, f, r, nc, fc, r0⟩ := store_arg u0
  have hcf : cf valG [.agg 5 (T.setL .lf 0 [.fz true 0 (cellsI .i64 fw) lw 1, .fz true 0 (cellsI .i64 fm) lm 1, .fz true 0 (rowsI 0 1 ls f) n 1, .int .i64 r, .fz true 0 (cellsI .i64 fc) nc 5])] (heap0 1) = some (true, .bool true) := by
    have e1 : okL [.agg 5 (T.setL .lf 0 [.fz true 0 (cellsI .i64 fw) lw 1, .fz true 0 (cellsI .i64 fm) lm 1, .fz true 0 (rowsI 0 1 ls f) n 1, .int .i64 r, .fz true 0 (cellsI .i64 fc) nc 5])] = cond (cond (allI .i64 (cellsI .i64 fw) lw 1) (cond (allI .i64 (cellsI .i64 fm) lm 1) (cond (allR 0 (rowsI 0 1 ls f) n 1) (cond true (cond (allI .i64 (cellsI .i64 fc) nc 5) true false) false) false) false) false) (true) false := by kernel_rfl
    have e2 : cf valG [.agg 5 (T.setL .lf 0 [.fz true 0 (cellsI .i64 fw) lw 1, .fz true 0 (cellsI .i64 fm) lm 1, .fz true 0 (rowsI 0 1 ls f) n 1, .int .i64 r, .fz true 0 (cellsI .i64 fc) nc 5])] (heap0 1) = some (cond (okL [.agg 5 (T.setL .lf 0 [.fz true 0 (cellsI .i64 fw) lw 1, .fz true 0 (cellsI .i64 fm) lm 1, .fz true 0 (rowsI 0 1 ls f) n 1, .int .i64 r, .fz true 0 (cellsI .i64 fc) nc 5])]) (true) false, .bool true) := by kernel_rfl
    rw [e2, e1]
    simp only [allI_cells, allR_rows, cond_true]
  have hs : SpecCall Tryz.prog 4 [.agg 5 (T.setL .lf 0 [.fz true 0 (cellsI .i64 fw) lw 1, .fz true 0 (cellsI .i64 fm) lm 1, .fz true 0 (rowsI 0 1 ls f) n 1, .int .i64 r, .fz true 0 (cellsI .i64 fc) nc 5])] (heap0 1) (.bool true) (bump (heap0 1)) := con_ok conG _ _ _ hcf
  have hal := al_cons r0 (show AL (renW W) [] ([] : List Value).toArray from AL.nil _)
  exact (run_args hs hal).mono fun e w' ⟨x, R, h1, h2, h3⟩ => by cases h2; exact ⟨h1, h3⟩
theorem duties_lifted (os : Os) (started : os.Started) (H : Type) (enc : TypeId × Value → H) :
    ReturnsInHanded {} Tryz.checked os 4 .any (Rows.proofDutiesSpec.pre6 enc Tryz.prog Tryz.f4 Rows.proofDutiesRow.domain false) (Rows.proofDutiesSpec.post enc Tryz.prog Tryz.f4 false true false false) := by
  refine returnsInHanded_of_change (C := Tryz.checked) own started (by kernel_rfl) Tryz.func4
    (ChangeSpec.witness6 (enc := enc) (C := Tryz.checked) false ⟨#[], #[.agg #[.slice none 0 0, .slice none 0 0, .slice none 0 0, .int .i64 0, .slice none 0 0]], []⟩ 8 (by kernel_rfl) (by kernel_rfl) (by kernel_rfl) (by kernel_rfl)) ?_
  intro W base args ds gs before hval0 hW hcnd _
  have hW' := hW
  obtain ⟨p, q, hA0, hV, rfl, hfz, hnd⟩ := hW
  have hval : ∀ (j : Nat) t v, Tryz.f4.params[j]? = some t → args.toList[j]? = some v → Value.okWide Tryz.prog W .any base t v := fun j t v h1 h2 => hval0 j t v h1 (by simpa using h2)
  have h := duties_any (args := args.toList) hval hA0
  rw [show args.toList.toArray = args by simp] at h
  have hds : ∃ da, ds = [da] := by
    rw [Tryz.params4] at hA0
    obtain ⟨x0, a0, d0, _, _, _, _, rfl, _, _, hA⟩ := trodAll_cons hA0
    obtain ⟨_, rfl, _⟩ := trodAll_nil hA
    exact ⟨_, rfl⟩
  obtain ⟨da, rfl⟩ := hds
  refine h.mono fun e W' ⟨he, hb⟩ => ?_
  exact ⟨_, he, Law.law_post laidOut (tb := 4) (by kernel_rfl) Tryz.underlying4 (fun t ht => by
    rw [Tryz.params4] at ht
    have ht : t ∈ [28] := ht
    simp only [List.mem_cons, List.not_mem_nil, or_false] at ht
    subst ht; exact ⟨by kernel_rfl, of_decide_eq_true (by kernel_rfl)⟩) rfl hW' rfl rfl rfl hb⟩
theorem proofDuties_holds : Rows.ProofDutiesSaid :=
  OpenClaim.holds_of_wide 4 Tryz.f4 rfl rfl rfl rfl rfl rfl rfl ⟨rfl, rfl, rfl, rfl, rfl⟩ rfl rfl rfl rfl rfl (by kernel_rfl) Tryz.func4 (by kernel_rfl)
    (of_decide_eq_true (by kernel_rfl)) (by unfold Func.isWrapper; first | (rw [if_pos (by decide +kernel)]; kernel_rfl) | (rw [if_neg (by decide +kernel)]; exact ⟨rfl, rfl⟩))
    (fun os started H enc _ => duties_lifted os started H enc)
end PD
theorem proofDuties_holds : Rows.ProofDutiesSaid := PD.proofDuties_holds
end Go.Proofs.YtjlghnijlkgbaaaGreat
