/- ProofTruths: for every input the law returns true: the store's error, the ranges of all strengths, the tenths of proof gallons and the duty in any truth are those of the reference, or the error is. No condition. -/
import Derived.Test.YtjlghnijlkgbaaaGreatRows
import Derived.WalkKit
import Derived.Test.YtjlghnijlkgbaaaGreatYPrT1
import Derived.Test.YtjlghnijlkgbaaaGreatYPrArg
import Derived.Test.YtjlghnijlkgbaaaGreatYEd
set_option linter.all false
set_option linter.unusedSimpArgs false
set_option linter.unusedVariables false
namespace Go.Proofs.YtjlghnijlkgbaaaGreat
namespace PT
open Go Go.Ev Go.ChangeShapes Go.WideShapes Go.ChangeAt Go.RowKit
set_option maxRecDepth 1000000
noncomputable section
theorem du_eq {fc t : Nat → Nat → Int} {r : Int} {k : Nat} (h6 : k ≤ 6) : ∀ j, j ≤ k → duF j fc r (lvT k t 0) (lvT k t 1) (lvT k t 2) (lvT k t 3) (lvT k t 4) (lvT k t 5) = duG fc r t j := by
  intro j
  induction j with
  | zero => intro _; rfl
  | succ j ih =>
    intro hj
    have e1 : duF (j + 1) fc r (lvT k t 0) (lvT k t 1) (lvT k t 2) (lvT k t 3) (lvT k t 4) (lvT k t 5) = duF j fc r (lvT k t 0) (lvT k t 1) (lvT k t 2) (lvT k t 3) (lvT k t 4) (lvT k t 5) + Int.tdiv (tnF fc (lvT k t 0) (lvT k t 1) (lvT k t 2) (lvT k t 3) (lvT k t 4) (lvT k t 5) j 0 * r + 9) 10 := rfl
    have e2 : duG fc r t (j + 1) = duG fc r t j + Int.tdiv (tnG fc t j * r + 9) 10 := rfl
    have e3 : tnF fc (lvT k t 0) (lvT k t 1) (lvT k t 2) (lvT k t 3) (lvT k t 4) (lvT k t 5) j 0 = tnG fc t j := by unfold tnF tnG; rw [lt_sel h6 (by omega)]
    rw [e1, e2, ih (by omega), e3]
theorem is_tru (lw : Nat) (fw : Nat → Nat → Int) (lm : Nat) (fm : Nat → Nat → Int) (n : Nat) (ls : Nat → Nat) (f : Nat → Nat → Nat → Int) (r : Int) (nc : Nat) (fc : Nat → Nat → Int) {k : Nat} {t : Nat → Nat → Int} : isB nc (stF lw fw lm fm f fc) k t = true ↔ Tru lw fw lm fm f nc fc k t := by
  unfold isB Tru
  constructor
  · intro h
    obtain ⟨h1, h2⟩ := cond_tt h
    exact ⟨nb h1, fun i hi => itB_t.mp (allN_get h2 i hi)⟩
  · rintro ⟨h1, h2⟩
    rw [show Nat.beq k nc = true from (beq_t _ _).mpr h1]
    exact allN_true fun i hi => itB_t.mpr (h2 i hi)
theorem teE_f (lw : Nat) (fw : Nat → Nat → Int) (lm : Nat) (fm : Nat → Nat → Int) (n : Nat) (ls : Nat → Nat) (f : Nat → Nat → Nat → Int) (r : Int) (nc : Nat) (fc : Nat → Nat → Int) (k : Nat) (t : Nat → Nat → Int) (h : teE lw fw lm fm n ls f r nc fc k t ≠ 0) : teN lw fw lm fm n ls f r nc fc k t = 0 ∧ dyV lw fw lm fm n ls f r nc fc k t = 0 := by
  unfold teN dyV
  rw [(iEq_f _ _).mpr h]; exact ⟨rfl, rfl⟩
def valG : Val := fun das => match das with
  | [.st [.sl 1 lw fw, .sl 1 lm fm, .rr 1 n ls f, .i .i64 r, .sl 5 nc fc], .one (.sl 1 k t)] => some (true, .bool true)
  | _ => none
theorem conG : Con Tryz.prog 3 valG := by
  intro das x hv
  unfold valG at hv
  split at hv
  · rename_i lw fw lm fm n ls f r nc fc k t
    have hv := congrArg Prod.snd (Option.some.inj hv)
    subst hv
    have fin : ∀ {h : HT}, VC (runD0 Tryz.prog XP 600 3 (enc [.st [.sl 1 lw fw, .sl 1 lm fm, .rr 1 n ls f, .i .i64 r, .sl 5 nc fc], .one (.sl 1 k t)] 0) 5 (fun v => valP v (.bool true))) h → flatV (.bool true) = true ∧ ∃ v' H', SpecCall Tryz.prog 3 (enc [.st [.sl 1 lw fw, .sl 1 lm fm, .rr 1 n ls f, .i .i64 r, .sl 5 nc fc], .one (.sl 1 k t)] 0) (heap0 6) v' H' ∧ valP v' (.bool true) := fun hvc =>
      con_runV drawnC XP_ok rfl (das := [.st [.sl 1 lw fw, .sl 1 lm fm, .rr 1 n ls f, .i .i64 r, .sl 5 nc fc], .one (.sl 1 k t)]) hvc
    cases hth : thB lw lm n ls with
    | false => exact fin (pa1 lw fw lm fm n ls f r nc fc k t hth)
    | true =>
    have hs := th_sm hth
    by_cases h9 : nc ≤ 9 ∧ k ≤ 9
    · by_cases hc : ckE lw fw lm fm n ls f r nc fc = 0
      · have ok := ckE_get lw fw lm fm n ls f r nc fc hc
        obtain ⟨c1, c2, c3⟩ := ck_hyp lw fw lm fm n ls f r nc fc hc
        have e1 : ssN lw fw lm fm n ls f r nc fc = nc := by unfold ssN; rw [hc]; rfl
        refine ⟨rfl, con_good (by kernel_rfl) ?_⟩
        have hL := loop_rule (body := bP1) (lv := xP lw fw lm fm n ls f r nc fc k t) (fun _ e => by cases e) nc (sP lw fw lm fm n ls f r nc fc k t) (fun i hi => round_of drawnC XP_ok (pr1 lw fw lm fm n ls f r nc fc k t i hi c2 e1).ok (by kernel_rfl) (by kernel_rfl)) (round_of drawnC XP_ok (pr2 lw fw lm fm n ls f r nc fc k t nc (by omega)).ok (by kernel_rfl) (by kernel_rfl))
        have hc1 : sub [1,0] cX1 = .loop bP1 := by kernel_rfl
        rw [← hc1] at hL
        have hto := vc_den _ _ (pc0 lw fw lm fm n ls f r nc fc k t hth hs c2 h9.2 hc c1 c3 e1).ok
        rcases teE_cases lw fw lm fm n ls f r nc fc k t with ⟨q, _⟩ | ⟨_, _, q, _, q2⟩ | ⟨_, _, q, _, q2⟩
        · exact absurd hc q
        · obtain ⟨e3, e4⟩ := teE_f lw fw lm fm n ls f r nc fc k t (by rw [q2]; decide)
          have hb : isB nc (stF lw fw lm fm f fc) k t = false := by
            cases hb : isB nc (stF lw fw lm fm f fc) k t with
            | false => rfl
            | true => exact absurd ((is_tru lw fw lm fm n ls f r nc fc).mp hb) q
          exact good_step drawnC XP_ok (rest := cR1) (by kernel_rfl) (fun _ _ => rfl) hto hL (pd1 lw fw lm fm n ls f r nc fc k t c2 h9.2 hb q2 e3 e4) (fun a H h => good_run drawnC XP_ok h)
        · have hb : isB nc (stF lw fw lm fm f fc) k t = true := (is_tru lw fw lm fm n ls f r nc fc).mpr q
          have ek := q.1
          have e3 : teN lw fw lm fm n ls f r nc fc k t = nc := by unfold teN; rw [q2]; rfl
          have e4 : dyV lw fw lm fm n ls f r nc fc k t = duG fc r t k := by
            have e : dyV lw fw lm fm n ls f r nc fc k t = duF nc fc r (lvT k t 0) (lvT k t 1) (lvT k t 2) (lvT k t 3) (lvT k t 4) (lvT k t 5) := by unfold dyV; rw [q2]; rfl
            rw [e, ← ek]
            exact du_eq (by omega) k (Nat.le_refl _)
          have hr := raB_t.mpr ok.rate
          have hgi : ∀ i, i < nc → gaB (fc i 0) = true ∧ srB (t i 0) = true := fun i hi => by
            have a := (ok.cask i hi).1
            have b := st_bd lw fw lm fm n ls f r nc fc ok hi
            have c := q.2 i hi
            exact ⟨gaB_t.mpr a, srB_t.mpr (by omega)⟩
          have hg : tgA fc t k = true := allN_true fun i hi => cond_mk (hgi i (by omega)).1 (hgi i (by omega)).2
          have hL2 := loop_rule (body := bP2) (lv := xQ) (fun _ e => by cases e) nc (sQ lw fw lm fm n ls f r nc fc k t) (fun i hi => round_of drawnC XP_ok (pq1 lw fw lm fm n ls f r nc fc k t i hi c2 ek e3 (hgi i hi).1 (hgi i hi).2 (by unfold tnF; rw [lt_sel (by omega) (by omega)])).ok (by kernel_rfl) (by kernel_rfl)) (round_of drawnC XP_ok (pq2 lw fw lm fm n ls f r nc fc k t nc (by omega)).ok (by kernel_rfl) (by kernel_rfl))
          have hc2 : sub [1,0] cX2 = .loop bP2 := by kernel_rfl
          rw [← hc2] at hL2
          exact good_step drawnC XP_ok (rest := cR1) (by kernel_rfl) (fun _ _ => rfl) hto hL (pe lw fw lm fm n ls f r nc fc k t c2 h9.2 hb ek q2 e3 e4 hr hg) (fun a H h =>
            good_step drawnC XP_ok (rest := cR2) (by kernel_rfl) (fun _ _ => rfl) h hL2 (pf lw fw lm fm n ls f r nc fc) (fun a H h => good_run drawnC XP_ok h))
      · have e1 : ssN lw fw lm fm n ls f r nc fc = 0 := by unfold ssN; rw [(iEq_f _ _).mpr hc]; rfl
        have e2 : teE lw fw lm fm n ls f r nc fc k t = ckE lw fw lm fm n ls f r nc fc := by unfold teE; rw [(iEq_f _ _).mpr hc]; rfl
        obtain ⟨e3, e4⟩ := teE_f lw fw lm fm n ls f r nc fc k t (by rw [e2]; exact hc)
        exact fin (pb lw fw lm fm n ls f r nc fc k t hth hs h9.1 h9.2 hc e1 e2 e3 e4)
    · exact fin (pa2 lw fw lm fm n ls f r nc fc k t hth h9)
  · cases hv
end
theorem truths_any {W : World} {H : Type} {enc : TypeId × Value → H} {base : Nat} {args : List Value} {ds : List (DataW H)} {p : List MemPlace} (hval : ∀ (j : Nat) t v, Tryz.f3.params[j]? = some t → args[j]? = some v → Value.okWide Tryz.prog W .any base t v)
    (hA : DataW.TrodAll enc Tryz.prog W 0 (fun _ => true) true Tryz.f3.params.toList args ds p) : Calls Tryz.prog 3 args.toArray W (fun e w' => e = .returned (.bool true) ∧ Below W.heap.size W w') := by
  rw [Tryz.params3] at hA hval
  obtain ⟨x0, a0, d0, _, _, _, rfl, rfl, rfl, u0, hA⟩ := trodAll_cons hA
  obtain ⟨x1, a1, d1, _, _, _, rfl, rfl, rfl, u1, hA⟩ := trodAll_cons hA
  obtain ⟨rfl, rfl, rfl⟩ := trodAll_nil hA
  obtain ⟨lw, fw, lm, fm, n, ls, f, r, nc, fc, r0⟩ := store_arg u0
  obtain ⟨k1, t1, r1⟩ := ints_arg (hval 1 _ x1 rfl rfl) u1
  have hcf : cf valG [.agg 5 (T.setL .lf 0 [.fz true 0 (cellsI .i64 fw) lw 1, .fz true 0 (cellsI .i64 fm) lm 1, .fz true 0 (rowsI 0 1 ls f) n 1, .int .i64 r, .fz true 0 (cellsI .i64 fc) nc 5]), .fz true 0 (cellsI .i64 t1) k1 1] (heap0 1) = some (true, .bool true) := by
    have e1 : okL [.agg 5 (T.setL .lf 0 [.fz true 0 (cellsI .i64 fw) lw 1, .fz true 0 (cellsI .i64 fm) lm 1, .fz true 0 (rowsI 0 1 ls f) n 1, .int .i64 r, .fz true 0 (cellsI .i64 fc) nc 5]), .fz true 0 (cellsI .i64 t1) k1 1] = cond (cond (allI .i64 (cellsI .i64 fw) lw 1) (cond (allI .i64 (cellsI .i64 fm) lm 1) (cond (allR 0 (rowsI 0 1 ls f) n 1) (cond true (cond (allI .i64 (cellsI .i64 fc) nc 5) true false) false) false) false) false) (cond (allI .i64 (cellsI .i64 t1) k1 1) (true) false) false := by kernel_rfl
    have e2 : cf valG [.agg 5 (T.setL .lf 0 [.fz true 0 (cellsI .i64 fw) lw 1, .fz true 0 (cellsI .i64 fm) lm 1, .fz true 0 (rowsI 0 1 ls f) n 1, .int .i64 r, .fz true 0 (cellsI .i64 fc) nc 5]), .fz true 0 (cellsI .i64 t1) k1 1] (heap0 1) = some (cond (okL [.agg 5 (T.setL .lf 0 [.fz true 0 (cellsI .i64 fw) lw 1, .fz true 0 (cellsI .i64 fm) lm 1, .fz true 0 (rowsI 0 1 ls f) n 1, .int .i64 r, .fz true 0 (cellsI .i64 fc) nc 5]), .fz true 0 (cellsI .i64 t1) k1 1]) (true) false, .bool true) := by kernel_rfl
    rw [e2, e1]
    simp only [allI_cells, allR_rows, cond_true]
  have hs : SpecCall Tryz.prog 3 [.agg 5 (T.setL .lf 0 [.fz true 0 (cellsI .i64 fw) lw 1, .fz true 0 (cellsI .i64 fm) lm 1, .fz true 0 (rowsI 0 1 ls f) n 1, .int .i64 r, .fz true 0 (cellsI .i64 fc) nc 5]), .fz true 0 (cellsI .i64 t1) k1 1] (heap0 1) (.bool true) (bump (heap0 1)) := con_ok conG _ _ _ hcf
  have hal := al_cons r0 (al_cons r1 (show AL (renW W) [] ([] : List Value).toArray from AL.nil _))
  exact (run_args hs hal).mono fun e w' ⟨x, R, h1, h2, h3⟩ => by cases h2; exact ⟨h1, h3⟩
theorem truths_lifted (os : Os) (started : os.Started) (H : Type) (enc : TypeId × Value → H) :
    ReturnsInHanded {} Tryz.checked os 3 .any (Rows.proofTruthsSpec.pre6 enc Tryz.prog Tryz.f3 Rows.proofTruthsRow.domain false) (Rows.proofTruthsSpec.post enc Tryz.prog Tryz.f3 false true false false) := by
  refine returnsInHanded_of_change (C := Tryz.checked) own started (by kernel_rfl) Tryz.func3
    (ChangeSpec.witness6 (enc := enc) (C := Tryz.checked) false ⟨#[], #[.agg #[.slice none 0 0, .slice none 0 0, .slice none 0 0, .int .i64 0, .slice none 0 0], .slice none 0 0], []⟩ 8 (by kernel_rfl) (by kernel_rfl) (by kernel_rfl) (by kernel_rfl)) ?_
  intro W base args ds gs before hval0 hW hcnd _
  have hW' := hW
  obtain ⟨p, q, hA0, hV, rfl, hfz, hnd⟩ := hW
  have hval : ∀ (j : Nat) t v, Tryz.f3.params[j]? = some t → args.toList[j]? = some v → Value.okWide Tryz.prog W .any base t v := fun j t v h1 h2 => hval0 j t v h1 (by simpa using h2)
  have h := truths_any (args := args.toList) hval hA0
  rw [show args.toList.toArray = args by simp] at h
  have hds : ∃ da db, ds = [da, db] := by
    rw [Tryz.params3] at hA0
    obtain ⟨x0, a0, d0, _, _, _, _, rfl, _, _, hA0⟩ := trodAll_cons hA0
    obtain ⟨x1, a1, d1, _, _, _, _, rfl, _, _, hA⟩ := trodAll_cons hA0
    obtain ⟨_, rfl, _⟩ := trodAll_nil hA
    exact ⟨_, _, rfl⟩
  obtain ⟨da, db, rfl⟩ := hds
  refine h.mono fun e W' ⟨he, hb⟩ => ?_
  exact ⟨_, he, Law.law_post laidOut (tb := 4) (by kernel_rfl) Tryz.underlying4 (fun t ht => by
    rw [Tryz.params3] at ht
    have ht : t ∈ [28, 22] := ht
    simp only [List.mem_cons, List.not_mem_nil, or_false] at ht
    rcases ht with rfl | rfl <;> exact ⟨by kernel_rfl, of_decide_eq_true (by kernel_rfl)⟩) rfl hW' rfl rfl rfl hb⟩
theorem proofTruths_holds : Rows.ProofTruthsSaid :=
  OpenClaim.holds_of_wide 3 Tryz.f3 rfl rfl rfl rfl rfl rfl rfl ⟨rfl, rfl, rfl, rfl, rfl⟩ rfl rfl rfl rfl rfl (by kernel_rfl) Tryz.func3 (by kernel_rfl)
    (of_decide_eq_true (by kernel_rfl)) (by unfold Func.isWrapper; first | (rw [if_pos (by decide +kernel)]; kernel_rfl) | (rw [if_neg (by decide +kernel)]; exact ⟨rfl, rfl⟩))
    (fun os started H enc _ => truths_lifted os started H enc)
end PT
theorem proofTruths_holds : Rows.ProofTruthsSaid := PT.proofTruths_holds
end Go.Proofs.YtjlghnijlkgbaaaGreat
