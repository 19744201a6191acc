/- Tables: contracts: equal lists are the same to the reference. -/
import Derived.Test.YtjikkfiohppnfaaGreatYTaW1
set_option linter.all false
set_option linter.unusedSimpArgs false
set_option linter.unusedVariables false
namespace Go.Proofs.YtjikkfiohppnfaaGreat
open Go Go.Ev
set_option maxRecDepth 1000000
noncomputable section
noncomputable def ltV : LT := ⟨[0,1,5],[0,1],[4],3⟩
noncomputable def sV (len : Nat) (g g2 : Nat → Nat → Int) (k : Nat) : LS := ⟨[.fz true 0 (cellsI .i64 g) len 1, .fz true 1 (cellsI .i64 g2) len 1, .int .i64 k], []⟩
noncomputable def dasV (len : Nat) (g g2 : Nat → Nat → Int) : List DA := [.one (.sl 1 len g), .one (.sl 1 len g2)]
noncomputable def xV (len : Nat) (g g2 : Nat → Nat → Int) : Lv := .exit 0 ⟨[.fz true 0 (cellsI .i64 g) len 1, .fz true 1 (cellsI .i64 g2) len 1], []⟩
noncomputable def bV : Code := sub [1,0,1,0,0] (bodyOf Tryz.prog 77)
theorem eV (len : Nat) (g g2 : Nat → Nat → Int) : VC (entD Tryz.prog noExt 300 77 [1,0,1,0] (dasV len g g2) (heap0 3) ltV 41 60 (sV len g g2 0)) .nil := VC_of ((True ∧ (((((V.fz true 0 (cellsI .i64 g) len 1) : V) = (V.fz true 0 (cellsI .i64 g) len 1)) ∧ ((((V.fz true 1 (cellsI .i64 g2) len 1) : V) = (V.fz true 1 (cellsI .i64 g2) len 1)) ∧ ((((0) : Int) = ((0 : Nat) : Int)) ∧ True))) ∧ True)))
theorem rV1 (len : Nat) (g g2 : Nat → Nat → Int) (k : Nat) (h1 : k < len) (h2 : len ≤ 1000) (h3 : g k 0 = g2 k 0) : VC (roundD Tryz.prog noExt 300 bV (heap0 3) ltV 41 60 (sV len g g2 k) (.next (sV len g g2 (k + 1)))) (.go 1463297 .nil) := VC_of (((not (iLe ((len : Nat) : Int) ((k : Nat) : Int))) = true ∧ ((not (iLe ((len : Nat) : Int) ((k : Nat) : Int))) = true ∧ ((Nat.blt k len) = true ∧ ((Nat.blt k len) = true ∧ ((not (iEq (g k 0) (g2 k 0))) = false ∧ ((small (((k : Nat) : Int) + (1))) = true ∧ (((((V.fz true 0 (cellsI .i64 g) len 1) : V) = (V.fz true 0 (cellsI .i64 g) len 1)) ∧ ((((V.fz true 1 (cellsI .i64 g2) len 1) : V) = (V.fz true 1 (cellsI .i64 g2) len 1)) ∧ ((((((k : Nat) : Int) + (1)) : Int) = (((k + 1) : Nat) : Int)) ∧ True))) ∧ True))))))))
theorem rV3 (len : Nat) (g g2 : Nat → Nat → Int) (k : Nat) (h1 : ¬ k < len) : VC (roundD Tryz.prog noExt 300 bV (heap0 3) ltV 41 60 (sV len g g2 k) (xV len g g2)) (.go 6 .nil) := VC_of (((not (iLe ((len : Nat) : Int) ((k : Nat) : Int))) = false ∧ (((((V.fz true 0 (cellsI .i64 g) len 1) : V) = (V.fz true 0 (cellsI .i64 g) len 1)) ∧ ((((V.fz true 1 (cellsI .i64 g2) len 1) : V) = (V.fz true 1 (cellsI .i64 g2) len 1)) ∧ True)) ∧ True)))
theorem fV (len : Nat) (g g2 : Nat → Nat → Int) : VC (fromD Tryz.prog noExt 300 77 [1,0,1,0] (Lv.res ltV 41 (endH (heap0 3) ltV 60 (xV len g g2)) (xV len g g2)) (.bool false)) .nil := VC_of (((not (iLe ((len : Nat) : Int) ((len : Nat) : Int))) = false))
noncomputable def eqN (g g2 : Nat → Nat → Int) (i : Nat) : Bool := decide (g i 0 = g2 i 0)
noncomputable def eqL (len len2 : Nat) (g g2 : Nat → Nat → Int) : Bool := cond (Nat.beq len len2) (cond (Nat.ble len 1000) (allN (eqN g g2) len) false) false
noncomputable def valBf : Val := fun das => match das with | [.one (.sl 1 len g), .one (.sl 1 len2 g2)] => some (eqL len len2 g g2, .bool false) | _ => none
theorem eqL_t {len len2 : Nat} {g g2 : Nat → Nat → Int} : eqL len len2 g g2 = true ↔ len = len2 ∧ len ≤ 1000 ∧ ∀ i, i < len → g i 0 = g2 i 0 := by
  unfold eqL
  constructor
  · intro h
    obtain ⟨h1, h⟩ := cond_tt h
    obtain ⟨h2, h3⟩ := cond_tt h
    refine ⟨nb h1, Nat.le_of_ble_eq_true h2, ?_⟩
    rcases first_bad (eqN g g2) len with q | ⟨N, q1, q2, q3⟩
    · exact fun i hi => of_decide_eq_true (q i hi)
    · rw [allN_false q1 q3] at h3; cases h3
  · rintro ⟨rfl, h2, h3⟩
    rw [nbeq_refl, Nat.ble_eq_true_of_le h2, allN_true (p := eqN g g2) (fun i hi => decide_eq_true (h3 i hi))]; rfl
theorem conBf : Con Tryz.prog 77 valBf := by
  intro das v hv
  unfold valBf at hv
  split at hv
  · rename_i len g len2 g2
    have hb := eqL_t.mp (congrArg Prod.fst (Option.some.inj hv))
    have hv := congrArg Prod.snd (Option.some.inj hv)
    subst hv
    obtain ⟨rfl, hl, hq⟩ := hb
    refine ⟨rfl, ?_⟩
    exact con_loopD drawnC noExt_ok (das := dasV len g g2) (lv := xV len g g2) (by kernel_rfl) (by kernel_rfl) (eV len g g2).ok (loop_rule (body := bV) (fun _ e => by cases e) len (sV len g g2) (fun k hk =>
        round_of drawnC noExt_ok (rV1 len g g2 k hk hl (hq k hk)).ok (by kernel_rfl) (by kernel_rfl)) (round_of drawnC noExt_ok (rV3 len g g2 len (by omega)).ok (by kernel_rfl) (by kernel_rfl))) (fV len g g2).ok
  · cases hv
noncomputable def XBf : Ext := conX [(77, cf valBf)] false
theorem XBf_ok : ExtOK Tryz.prog XBf := conX_ok (allCon_cons (con_ok conBf) allCon_nil)
end
end Go.Proofs.YtjikkfiohppnfaaGreat
