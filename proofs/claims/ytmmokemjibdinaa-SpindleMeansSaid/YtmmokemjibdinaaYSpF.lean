/- Stage 1: what Floats and See answer of a valid spindle, compared: denser liquids, heavier loads. -/
import Derived.Test.YtmmokemjibdinaaYSpMath
set_option linter.all false
set_option linter.unusedSimpArgs false
set_option linter.unusedVariables false
namespace Go.Proofs.Ytmmokemjibdinaa
open Go Go.Ev
noncomputable section
theorem rest_m1 {lo hi x : Int} : restI lo hi x = -1 ↔ x < lo := by
  by_cases h : lo ≤ x
  · by_cases h2 : x ≤ hi
    · rw [← restI_0 h h2]; omega
    · rw [← restI_hi h (by omega)]; omega
  · rw [← restI_lo (by omega)]; omega
theorem rest_m2 {lo hi x : Int} : restI lo hi x = -2 ↔ lo ≤ x ∧ hi < x := by
  by_cases h : lo ≤ x
  · by_cases h2 : x ≤ hi
    · rw [← restI_0 h h2]; omega
    · rw [← restI_hi h (by omega)]; omega
  · rw [← restI_lo (by omega)]; omega
theorem rest_0 {lo hi x : Int} : restI lo hi x = 0 ↔ lo ≤ x ∧ x ≤ hi := by
  by_cases h : lo ≤ x
  · by_cases h2 : x ≤ hi
    · rw [← restI_0 h h2]; omega
    · rw [← restI_hi h (by omega)]; omega
  · rw [← restI_lo (by omega)]; omega
theorem loB_mono {μ ν dp : Int} (h : 1 ≤ μ) (hν : μ ≤ ν) (h1 : 1 ≤ dp) : loB μ dp ≤ loB ν dp := by
  rw [loB_le h h1]
  have := (loB_le (μ := ν) (dp := dp) (dens := loB ν dp) (by omega) h1).1 (Int.le_refl _)
  omega
theorem hiB_mono {μ ν sh : Int} (h : 1 ≤ μ) (hν : μ ≤ ν) (h1 : 1 ≤ sh) : hiB μ sh ≤ hiB ν sh := by
  rw [le_hiB (by omega) h1]
  have := (le_hiB (μ := μ) (sh := sh) (dens := hiB μ sh) h h1).1 (Int.le_refl _)
  omega
section
variable {m v st d w : Int} {len : Nat} {f : Nat → Nat → Int}
theorem nF_valid {i x : Int} (h : ckS m v st d w len f = 0) (hi : 0 ≤ i ∧ i ≤ len) (hx : 1 ≤ x ∧ x ≤ 2000) : eF m v st d w len f i x = 0 ∧ nF m v st d w len f i x = restI (loB (mI m f i) (v + d * st)) (hiB (mI m f i) v) x := by
  rcases eF_cases m v st d w len f i x with ⟨q, _⟩ | ⟨_, q, _⟩ | ⟨_, _, e1, e2⟩
  · exact absurd h q
  · exact absurd ⟨hi.1, hi.2, hx.1, hx.2⟩ q
  · exact ⟨e1, e2⟩
theorem stem_of (h : ckS m v st d w len f = 0) : 1 ≤ m ∧ m ≤ 5000 ∧ 1 ≤ v ∧ v ≤ 5000 ∧ 1 ≤ st ∧ st ≤ 100 ∧ 1 ≤ d ∧ d ≤ 20 ∧ 1 ≤ w ∧ w ≤ st ∧ st ≤ 2 * w := of_decide_eq_true (ck0 h).2.2
theorem mass_of {i : Int} (h : ckS m v st d w len f = 0) (hi : 0 ≤ i ∧ i ≤ len) : mOkB m len f i = true ∧ 1 ≤ mI m f i ∧ mI m f i ≤ 6000 := by
  have := ck0_sOk h hi.1 hi.2
  have := (cond_tt this).2
  exact ⟨this, mI_bd this⟩
theorem top_pos (h : ckS m v st d w len f = 0) : 1 ≤ v + d * st := by
  have hs := stem_of h
  have := Int.mul_nonneg (a := d) (b := st) (by omega) (by omega)
  omega
theorem fl_of {i x : Int} (h : ckS m v st d w len f = 0) (hi : 0 ≤ i ∧ i ≤ len) (hx : 1 ≤ x ∧ x ≤ 2000) : Fl v st d w (mI m f i) x := by
  have hs := stem_of h
  exact ⟨by omega, by omega, by omega, by omega, (mass_of h hi).2, hx⟩
theorem eS0 {i x : Int} (h : ckS m v st d w len f = 0) (hi : 0 ≤ i ∧ i ≤ len) (hx : 1 ≤ x ∧ x ≤ 2000) (e : eS m v st d w len f i x = 0) :
    seeL m v st d w len f i x = rdL (mI m f i) v st d w x (readN d) ∧ seeH m v st d w len f i x = rdH (mI m f i) v st d w x (readN d) ∧ x * v ≤ 1000 * mI m f i ∧ 1000 * mI m f i ≤ x * (v + d * st) := by
  rcases eS_cases m v st d w len f i x with ⟨q, e1, _⟩ | ⟨_, q, e1, _⟩ | ⟨_, hn, _, e2, e3⟩
  · rw [e] at e1; exact absurd e1.symm q
  · rw [e] at e1; omega
  · rw [(nF_valid h hi hx).2, rest_0] at hn
    have hs := stem_of h
    have hμ := (mass_of h hi).2
    exact ⟨e2, e3, (le_hiB hμ.1 (by omega)).1 hn.2, (loB_le hμ.1 (top_pos h)).1 hn.1⟩
theorem facts {i k x u : Int} (h : ckS m v st d w len f = 0) (hi : 0 ≤ i ∧ i ≤ len) (hk : 0 ≤ k ∧ k ≤ len) (hx : 1 ≤ x ∧ x ≤ 2000) (hu : x ≤ u ∧ u ≤ 2000) (hw : mI m f i ≤ mI m f k) :
    eF m v st d w len f i x = 0 ∧ eF m v st d w len f i u = 0 ∧ eF m v st d w len f k x = 0 ∧
    (nF m v st d w len f i x = -2 → nF m v st d w len f i u = -2) ∧ (nF m v st d w len f i u = -1 → nF m v st d w len f i x = -1) ∧ (nF m v st d w len f i x = -1 → nF m v st d w len f k x = -1) ∧ (nF m v st d w len f k x = -2 → nF m v st d w len f i x = -2) ∧
    (eS m v st d w len f i x = 0 → eS m v st d w len f i u = 0 → seeL m v st d w len f i u ≤ seeL m v st d w len f i x ∧ seeH m v st d w len f i u ≤ seeH m v st d w len f i x) ∧
    (eS m v st d w len f i x = 0 → eS m v st d w len f k x = 0 → seeL m v st d w len f i x ≤ seeL m v st d w len f k x ∧ seeH m v st d w len f i x ≤ seeH m v st d w len f k x) := by
  have hs := stem_of h
  have hμ := (mass_of h hi).2
  have hν := (mass_of h hk).2
  have hxu : 1 ≤ u ∧ u ≤ 2000 := by omega
  obtain ⟨a1, a2⟩ := nF_valid h hi hx
  obtain ⟨b1, b2⟩ := nF_valid h hi hxu
  obtain ⟨c1, c2⟩ := nF_valid h hk hx
  have t := top_pos h
  have l := loB_mono (dp := v + d * st) hμ.1 hw t
  have g := hiB_mono (sh := v) hμ.1 hw (by omega)
  refine ⟨a1, b1, c1, ?_, ?_, ?_, ?_, fun e1 e2 => ?_, fun e1 e2 => ?_⟩
  · rw [a2, b2, rest_m2, rest_m2]; omega
  · rw [a2, b2, rest_m1, rest_m1]; omega
  · rw [a2, c2, rest_m1, rest_m1]; omega
  · rw [a2, c2, rest_m2, rest_m2]; omega
  · obtain ⟨p1, p2, p3, p4⟩ := eS0 h hi hx e1
    obtain ⟨q1, q2, q3, q4⟩ := eS0 h hi hxu e2
    rw [p1, p2, q1, q2]
    exact ends_mono (fl_of h hi hx) (fl_of h hi hxu) p3 p4 q3 q4 hu.1 (Int.le_refl _)
  · obtain ⟨p1, p2, p3, p4⟩ := eS0 h hi hx e1
    obtain ⟨q1, q2, q3, q4⟩ := eS0 h hk hx e2
    rw [p1, p2, q1, q2]
    exact ends_mono (fl_of h hk hx) (fl_of h hi hx) q3 q4 p3 p4 (Int.le_refl _) hw
end
theorem tmod_bd {a b : Int} (h0 : 0 ≤ a) (h1 : 1 ≤ b) : 0 ≤ Int.tmod a b ∧ Int.tmod a b ≤ b - 1 := by
  rw [Int.tmod_eq_emod_of_nonneg h0]
  have := Int.emod_nonneg a (show b ≠ 0 by omega)
  have := Int.emod_lt_of_pos a (show 0 < b by omega)
  omega
end
end Go.Proofs.Ytmmokemjibdinaa
