/- Stage 1: SpindleMeans: the densities that fit are an interval. -/
import Derived.Test.YtmmokemjibdinaaYSpG
import Derived.Test.YtmmokemjibdinaaYSpE5
import Derived.Test.YtmmokemjibdinaaYSpM3
set_option linter.all false
set_option linter.unusedSimpArgs false
set_option linter.unusedVariables false
namespace Go.Proofs.Ytmmokemjibdinaa
open Go Go.Ev
noncomputable section
variable {m v st d w : Int} {len : Nat} {f : Nat → Nat → Int}
theorem rfI_m1 {D lo hi : Int} : rfI D lo hi = -1 ↔ lo ≤ D ∧ hi < D := by
  by_cases h : lo ≤ D
  · by_cases h2 : D ≤ hi
    · rw [← rfI_0 h h2]; omega
    · rw [← rfI_1 h (by omega)]; omega
  · rw [← rfI_2 (by omega)]; omega
theorem rfI_m2 {D lo hi : Int} : rfI D lo hi = -2 ↔ D < lo := by
  by_cases h : lo ≤ D
  · by_cases h2 : D ≤ hi
    · rw [← rfI_0 h h2]; omega
    · rw [← rfI_1 h (by omega)]; omega
  · rw [← rfI_2 (by omega)]; omega
theorem rfI_z {D lo hi : Int} : rfI D lo hi = 0 ↔ lo ≤ D ∧ D ≤ hi := by
  by_cases h : lo ≤ D
  · by_cases h2 : D ≤ hi
    · rw [← rfI_0 h h2]; omega
    · rw [← rfI_1 h (by omega)]; omega
  · rw [← rfI_2 (by omega)]; omega
theorem mn_all {μ s : Int} : 1 ≤ mnL μ v st d w s ∧ mnH μ v st d w s ≤ 2000 := by
  unfold mnL mnH
  cases iEq s (-1) <;> cases iEq s (-2) <;> simp only [cond_true, cond_false] <;> omega
theorem fit_iff {i x s : Int} (h : ckS m v st d w len f = 0) (hi : 0 ≤ i ∧ i ≤ len) (hs : -2 ≤ s ∧ s ≤ d) (hx : 1 ≤ x ∧ x ≤ 2000) :
    fitB (mI m f i) v st d w x s = true ↔ mnL (mI m f i) v st d w s ≤ x ∧ x ≤ mnH (mI m f i) v st d w s := by
  have hst := stem_of h
  have hμ := (mass_of h hi).2
  have t := top_pos h
  have l1 := loB_le (μ := mI m f i) (dp := v + d * st) (dens := x) hμ.1 t
  have l2 := le_hiB (μ := mI m f i) (sh := v) (dens := x) hμ.1 (by omega)
  have l3 : x * v ≤ x * (v + d * st) := mul_mono (by omega) (by have := Int.mul_nonneg (a := d) (b := st) (by omega) (by omega); omega)
  by_cases e1 : s = -1
  · subst e1
    rw [fitB_n (.inl (by omega)), iEq_t, rfI_m1]
    unfold mnL mnH
    rw [(iEq_t _ _).mpr rfl]
    simp only [cond_true]
    omega
  · by_cases e2 : s = -2
    · subst e2
      rw [fitB_n (.inl (by omega)), iEq_t, rfI_m2]
      unfold mnL mnH
      rw [(iEq_t _ _).mpr rfl, (iEq_f _ _).mpr (by omega)]
      simp only [cond_true, cond_false]
      omega
    · have hs0 : 0 ≤ s := by omega
      have es : ((Int.toNat s : Nat) : Int) = s := Int.toNat_of_nonneg hs0
      have hg := hB_get (μ := mI m f i) (v := v) (st := st) (d := d) (w := w) (x := x) (k := Int.toNat s)
      rw [es] at hg
      rw [← hg]
      by_cases c : rfI (1000 * mI m f i) (x * v) (x * (v + d * st)) = 0
      · have c' := rfI_z.1 c
        rw [fitB_p hs0 c]
        have := ftB_iff (fl_of h hi hx) c'.1 c'.2 (k := Int.toNat s) (by omega)
        rw [es] at this
        rw [this]
      · rw [fitB_n (.inr c), iEq_t]
        constructor
        · intro q
          rcases rfI_get (1000 * mI m f i) (x * v) (x * (v + d * st)) with q2 | q2 | q2 <;> omega
        · intro q
          exact absurd (rfI_z.2 (float_of h hi hx (by omega) q)) c
theorem all_int {μ s L H : Int} (hL : 1 ≤ L) (hH : H ≤ 2000) (hf : ∀ x : Int, 1 ≤ x → x ≤ 2000 → (fitB μ v st d w x s = true ↔ L ≤ x ∧ x ≤ H)) : ∀ n : Nat, n ≤ 2000 →
    (min H n < L ∧ aN μ v st d w s n = 0 ∧ aL μ v st d w s n = 2001 ∧ aH μ v st d w s n = 0) ∨ (L ≤ min H n ∧ aN μ v st d w s n = min H n - L + 1 ∧ aL μ v st d w s n = L ∧ aH μ v st d w s n = min H n) := by
  intro n
  induction n with
  | zero => intro _; exact .inl ⟨by omega, rfl, rfl, rfl⟩
  | succ n ih =>
    intro hn
    have ih := ih (by omega)
    have hq := hf (n + 1) (by omega) (by omega)
    cases hh : fitB μ v st d w (n + 1) s with
    | true =>
      have e1 : aL μ v st d w s (n + 1) = min (aL μ v st d w s n) (n + 1) := by show cond _ _ _ = _; rw [hh]; rfl
      have e2 : aH μ v st d w s (n + 1) = max (aH μ v st d w s n) (n + 1) := by show cond _ _ _ = _; rw [hh]; rfl
      have e3 : aN μ v st d w s (n + 1) = aN μ v st d w s n + 1 := by show cond _ _ _ = _; rw [hh]; rfl
      rw [e1, e2, e3]
      have hq := hq.1 hh
      omega
    | false =>
      have e1 : aL μ v st d w s (n + 1) = aL μ v st d w s n := by show cond _ _ _ = _; rw [hh]; rfl
      have e2 : aH μ v st d w s (n + 1) = aH μ v st d w s n := by show cond _ _ _ = _; rw [hh]; rfl
      have e3 : aN μ v st d w s (n + 1) = aN μ v st d w s n := by show cond _ _ _ = _; rw [hh]; rfl
      rw [e1, e2, e3]
      have hq : ¬ (L ≤ (n : Int) + 1 ∧ (n : Int) + 1 ≤ H) := fun q => by rw [hq.2 q] at hh; cases hh
      omega
theorem all_eq {i s : Int} (h : ckS m v st d w len f = 0) (hi : 0 ≤ i ∧ i ≤ len) (hs : -2 ≤ s ∧ s ≤ d) :
    (mnH (mI m f i) v st d w s < mnL (mI m f i) v st d w s ∧ aN (mI m f i) v st d w s (n2 d) = 0) ∨
    (mnL (mI m f i) v st d w s ≤ mnH (mI m f i) v st d w s ∧ aN (mI m f i) v st d w s (n2 d) = mnH (mI m f i) v st d w s - mnL (mI m f i) v st d w s + 1 ∧ aL (mI m f i) v st d w s (n2 d) = mnL (mI m f i) v st d w s ∧ aH (mI m f i) v st d w s (n2 d) = mnH (mI m f i) v st d w s) := by
  have bd := mn_all (μ := mI m f i) (v := v) (st := st) (d := d) (w := w) (s := s)
  have hn2 : n2 d = 2000 := by unfold n2; omega
  have := all_int (μ := mI m f i) (v := v) (st := st) (d := d) (w := w) (s := s) bd.1 bd.2 (fun x h1 h2 => fit_iff h hi hs ⟨h1, h2⟩) (n2 d) (by omega)
  rw [hn2] at this ⊢
  rcases this with ⟨a, b, _, _⟩ | ⟨a, b, c, e⟩
  · exact .inl ⟨by omega, b⟩
  · exact .inr ⟨by omega, by omega, c, by omega⟩
end
end Go.Proofs.Ytmmokemjibdinaa
