/- Stage 1: what See and Mean answer of a valid spindle, one from the other. -/
import Derived.Test.YtmmokemjibdinaaYSpF
set_option linter.all false
set_option linter.unusedSimpArgs false
set_option linter.unusedVariables false
namespace Go.Proofs.Ytmmokemjibdinaa
open Go Go.Ev
noncomputable section
variable {m v st d w : Int} {len : Nat} {f : Nat → Nat → Int}
theorem eS_0_10 {i x : Int} (h : ckS m v st d w len f = 0) (hi : 0 ≤ i ∧ i ≤ len) (hx : 1 ≤ x ∧ x ≤ 2000) : (eS m v st d w len f i x = 0 ∧ nF m v st d w len f i x = 0) ∨ (eS m v st d w len f i x = 10 ∧ ¬ nF m v st d w len f i x = 0) := by
  have e := (nF_valid h hi hx).1
  rcases eS_cases m v st d w len f i x with ⟨q, _⟩ | ⟨_, q, e1, _⟩ | ⟨_, q, e1, _⟩
  · exact absurd e q
  · exact .inr ⟨e1, q⟩
  · exact .inl ⟨e1, q⟩
/-- it floats -/
theorem eS_of {i x : Int} (h : ckS m v st d w len f = 0) (hi : 0 ≤ i ∧ i ≤ len) (hx : 1 ≤ x ∧ x ≤ 2000) (h1 : x * v ≤ 1000 * mI m f i) (h2 : 1000 * mI m f i ≤ x * (v + d * st)) : eS m v st d w len f i x = 0 := by
  have hs := stem_of h
  have hμ := (mass_of h hi).2
  have hn : nF m v st d w len f i x = 0 := by
    rw [(nF_valid h hi hx).2, rest_0]
    exact ⟨(loB_le hμ.1 (top_pos h)).2 h2, (le_hiB hμ.1 (by omega)).2 h1⟩
  rcases eS_0_10 h hi hx with ⟨q, _⟩ | ⟨_, q⟩
  · exact q
  · exact absurd hn q
theorem eM_valid {i s : Int} (h : ckS m v st d w len f = 0) (hi : 0 ≤ i ∧ i ≤ len) (hsr : -2 ≤ s ∧ s ≤ d) :
    (eM m v st d w len f i s = 7 ∧ mnH (mI m f i) v st d w s < mnL (mI m f i) v st d w s) ∨
    (eM m v st d w len f i s = 0 ∧ mnL (mI m f i) v st d w s ≤ mnH (mI m f i) v st d w s ∧ meaL m v st d w len f i s = mnL (mI m f i) v st d w s ∧ meaH m v st d w len f i s = mnH (mI m f i) v st d w s) := by
  rcases eM_cases m v st d w len f i s with ⟨q, _⟩ | ⟨_, q, _⟩ | ⟨_, _, q, e, _⟩ | ⟨_, _, q, e, e2, e3⟩
  · exact absurd h q
  · exact absurd ⟨hi.1, hi.2, hsr.1, hsr.2⟩ q
  · exact .inl ⟨e, q⟩
  · exact .inr ⟨e, q, e2, e3⟩
theorem hB_get {μ x : Int} {k : Nat} : hB μ v st d w x k = true ↔ mnL μ v st d w k ≤ x ∧ x ≤ mnH μ v st d w k := by
  constructor
  · intro h
    obtain ⟨q1, q2⟩ := cond_tt h
    rw [iLe_t] at q1 q2
    exact ⟨q1, q2⟩
  · rintro ⟨q1, q2⟩
    exact cond_mk ((iLe_t _ _).mpr q1) ((iLe_t _ _).mpr q2)
theorem mn_bd {μ s : Int} (hs : 0 ≤ s) : 1 ≤ mnL μ v st d w s ∧ mnH μ v st d w s ≤ 2000 := by
  unfold mnL mnH
  rw [(iEq_f _ _).mpr (show ¬ s = -1 by omega), (iEq_f _ _).mpr (show ¬ s = -2 by omega)]
  show 1 ≤ max 1 _ ∧ min 2000 _ ≤ 2000
  omega
/-- what holds of a division in a density -/
theorem float_of {i x : Int} (h : ckS m v st d w len f = 0) (hi : 0 ≤ i ∧ i ≤ len) (hx : 1 ≤ x ∧ x ≤ 2000) {k : Nat} (hk : (k : Int) ≤ d) (hh : hB (mI m f i) v st d w x k = true) : x * v ≤ 1000 * mI m f i ∧ 1000 * mI m f i ≤ x * (v + d * st) := by
  have F := fl_of h hi hx
  obtain ⟨q1, q2⟩ := (hB_iff F hk).1 hh
  unfold Up' at q1
  unfold Dn' at q2
  have a1 := mul_mono (a := x) (b := v) (c := shal v st w k) (by omega) (by unfold shal; omega)
  have a2 := mul_mono (a := x) (b := deep v st d w k) (c := v + d * st) (by omega) (by unfold deep; omega)
  omega
theorem shal_mono {a b : Int} (hst : 0 ≤ st) (h : a ≤ b) : shal v st w a ≤ shal v st w b := by
  unfold shal
  have := Int.mul_le_mul_of_nonneg_right h hst
  omega
theorem deep_mono {a b : Int} (hst : 0 ≤ st) (h : a ≤ b) : deep v st d w a ≤ deep v st d w b := by
  unfold deep
  have := Int.mul_le_mul_of_nonneg_right h hst
  omega
/-- between two divisions that can be read all can, and they are three at most -/
theorem hB_between {μ x : Int} (F : Fl v st d w μ x) {a b k : Nat} (hb : (b : Int) ≤ d) (h1 : hB μ v st d w x a = true) (h2 : hB μ v st d w x b = true) (hk : a ≤ k ∧ k ≤ b) : hB μ v st d w x k = true := by
  have q1 := ((hB_iff F (by omega)).1 h1).2
  have q2 := ((hB_iff F hb).1 h2).1
  have hst := F.hst
  have hx := F.hdens
  refine (hB_iff F (by omega)).2 ⟨?_, ?_⟩
  · unfold Up' at q2 ⊢
    have := mul_mono (a := x) (b := shal v st w k) (c := shal v st w b) (by omega) (shal_mono (by omega) (by omega))
    omega
  · unfold Dn' at q1 ⊢
    have := mul_mono (a := x) (b := deep v st d w a) (c := deep v st d w k) (by omega) (deep_mono (by omega) (by omega))
    omega
theorem hB_three {μ x : Int} (F : Fl v st d w μ x) {a b : Nat} (hab : a ≤ b) (hb : (b : Int) ≤ d) (h1 : hB μ v st d w x a = true) (h2 : hB μ v st d w x b = true) : b ≤ a + 2 := by
  have q1 := ((hB_iff F (by omega)).1 h1).2
  have q2 := ((hB_iff F hb).1 h2).1
  have hst := F.hst
  have hw := F.hw
  have hx := F.hdens
  by_cases hc : b ≤ a + 2
  · exact hc
  · exfalso
    unfold Dn' at q1
    unfold Up' at q2
    have e1 : deep v st d w a ≤ v + a * st + w := by unfold deep; omega
    have e2 : v + b * st - w ≤ shal v st w b := by unfold shal; omega
    have e3 : (a + 3 : Int) * st ≤ b * st := Int.mul_le_mul_of_nonneg_right (by omega) (by omega)
    rw [Int.add_mul] at e3
    have e4 : deep v st d w a + 1 ≤ shal v st w b := by omega
    have a1 := mul_mono (a := x) (b := deep v st d w a + 1) (c := shal v st w b) (by omega) e4
    rw [Int.mul_add] at a1
    omega
/-- See in a density, and Mean of the divisions that it names -/
theorem see_mean {i x : Int} (h : ckS m v st d w len f = 0) (hi : 0 ≤ i ∧ i ≤ len) (hx : 1 ≤ x ∧ x ≤ 2000) (e : eS m v st d w len f i x = 0) :
    (0 ≤ seeL m v st d w len f i x ∧ seeL m v st d w len f i x ≤ seeH m v st d w len f i x ∧ seeH m v st d w len f i x ≤ seeL m v st d w len f i x + 2 ∧ seeH m v st d w len f i x ≤ d) ∧
    (∀ s, seeL m v st d w len f i x ≤ s → s ≤ seeH m v st d w len f i x → eM m v st d w len f i s = 0 ∧ meaL m v st d w len f i s ≤ x ∧ x ≤ meaH m v st d w len f i s) ∧
    (∀ k : Nat, (k : Int) ≤ d → hB (mI m f i) v st d w x k = true → seeL m v st d w len f i x ≤ k ∧ (k : Int) ≤ seeH m v st d w len f i x) := by
  obtain ⟨p1, p2, p3, p4⟩ := eS0 h hi hx e
  have F := fl_of h hi hx
  obtain ⟨a, b, a1, b1, ab, bd, ha, hb, hall⟩ := ends_of F p3 p4
  rw [p1, p2, a1, b1]
  have := hB_three F ab bd ha hb
  refine ⟨by omega, fun s s1 s2 => ?_, fun k hk hh => ?_⟩
  · have hs0 : 0 ≤ s := by omega
    have es : ((Int.toNat s : Nat) : Int) = s := Int.toNat_of_nonneg hs0
    have hk := hB_between F bd ha hb (k := Int.toNat s) (by omega)
    rw [hB_get, es] at hk
    rcases eM_valid (s := s) h hi (by omega) with ⟨_, q⟩ | ⟨q1, _, q3, q4⟩
    · omega
    · rw [q3, q4]; exact ⟨q1, hk⟩
  · have := hall k hk hh
    omega
/-- Mean of a division, and See in its densities -/
theorem mean_see {i s x : Int} (h : ckS m v st d w len f = 0) (hi : 0 ≤ i ∧ i ≤ len) (hsr : 0 ≤ s ∧ s ≤ d) (hx : mnL (mI m f i) v st d w s ≤ x ∧ x ≤ mnH (mI m f i) v st d w s) :
    eS m v st d w len f i x = 0 ∧ seeL m v st d w len f i x ≤ s ∧ s ≤ seeH m v st d w len f i x := by
  have bd := mn_bd (μ := mI m f i) (v := v) (st := st) (d := d) (w := w) hsr.1
  have hx' : 1 ≤ x ∧ x ≤ 2000 := by omega
  have es : ((Int.toNat s : Nat) : Int) = s := Int.toNat_of_nonneg hsr.1
  have hk : hB (mI m f i) v st d w x (Int.toNat s) = true := by rw [hB_get, es]; exact hx
  obtain ⟨q1, q2⟩ := float_of h hi hx' (by omega) hk
  have e := eS_of h hi hx' q1 q2
  have := (see_mean h hi hx' e).2.2 (Int.toNat s) (by omega) hk
  rw [es] at this
  exact ⟨e, this⟩
end
end Go.Proofs.Ytmmokemjibdinaa
