/- Stage 1: the divisions that the reference tries are those that See names. -/
import Derived.Test.YtmmokemjibdinaaYSpG
import Derived.Test.YtmmokemjibdinaaYSpE3
set_option linter.all false
set_option linter.unusedSimpArgs false
set_option linter.unusedVariables false
namespace Go.Proofs.Ytmmokemjibdinaa
open Go Go.Ev
noncomputable section
def lwL (μ v st w dens : Int) : Nat → Int
  | 0 => 99
  | k + 1 => cond (ftB μ v st w dens k) (min (lwL μ v st w dens k) k) (lwL μ v st w dens k)
def hgH (μ v st w dens : Int) : Nat → Int
  | 0 => -1
  | k + 1 => cond (ftB μ v st w dens k) (max (hgH μ v st w dens k) k) (hgH μ v st w dens k)
theorem ftB_iff {v st d w μ dens : Int} (F : Fl v st d w μ dens) (h1 : dens * v ≤ 1000 * μ) (h2 : 1000 * μ ≤ dens * (v + d * st)) {k : Nat} (hk : (k : Int) ≤ d) : ftB μ v st w dens k = hB μ v st d w dens k := by
  have hx := F.hdens
  have key : (dens * (v + k * st - w) ≤ 1000 * μ ∧ 1000 * μ ≤ dens * (v + k * st + w)) ↔ (Up' v st w μ dens k ∧ Dn' v st d w μ dens k) := by
    unfold Up' Dn' shal deep
    constructor
    · rintro ⟨q1, q2⟩
      refine ⟨?_, ?_⟩
      · rcases Int.le_total v (v + k * st - w) with q | q
        · rw [Int.max_eq_right q]; exact q1
        · rw [Int.max_eq_left q]; exact h1
      · rcases Int.le_total (v + d * st) (v + k * st + w) with q | q
        · rw [Int.min_eq_left q]; exact h2
        · rw [Int.min_eq_right q]; exact q2
    · rintro ⟨q1, q2⟩
      have a1 := mul_mono (a := dens) (b := v + k * st - w) (c := max v (v + k * st - w)) (by omega) (by omega)
      have a2 := mul_mono (a := dens) (b := min (v + d * st) (v + k * st + w)) (c := v + k * st + w) (by omega) (by omega)
      omega
  have h := hB_iff F hk
  cases e : hB μ v st d w dens k with
  | true =>
    have := key.2 (h.1 e)
    exact (ftB_t this.1 this.2).symm
  | false =>
    cases e2 : ftB μ v st w dens k with
    | false => rfl
    | true =>
      obtain ⟨q1, q2⟩ := cond_tt e2
      rw [iLe_t] at q1 q2
      have := h.2 (key.1 ⟨q1, q2⟩)
      rw [e] at this; cases this
theorem lw_prop (μ v st w dens : Int) : ∀ n : Nat, (∀ k : Nat, k < n → ftB μ v st w dens k = true → lwL μ v st w dens n ≤ k) ∧ (lwL μ v st w dens n = 99 ∨ ∃ k : Nat, k < n ∧ lwL μ v st w dens n = k ∧ ftB μ v st w dens k = true) := by
  intro n
  induction n with
  | zero => exact ⟨fun k hk => by omega, .inl rfl⟩
  | succ n ih =>
    obtain ⟨i1, i2⟩ := ih
    cases hh : ftB μ v st w dens n with
    | true =>
      have e : lwL μ v st w dens (n + 1) = min (lwL μ v st w dens n) n := by show cond _ _ _ = _; rw [hh]; rfl
      rw [e]
      refine ⟨fun k hk q => ?_, ?_⟩
      · by_cases ek : k = n
        · omega
        · have := i1 k (by omega) q; omega
      · rcases Int.le_total (lwL μ v st w dens n) n with q | q
        · rw [Int.min_eq_left q]
          rcases i2 with q2 | ⟨k, q1, q2, q3⟩
          · exact .inl q2
          · exact .inr ⟨k, by omega, q2, q3⟩
        · rw [Int.min_eq_right q]; exact .inr ⟨n, by omega, rfl, hh⟩
    | false =>
      have e : lwL μ v st w dens (n + 1) = lwL μ v st w dens n := by show cond _ _ _ = _; rw [hh]; rfl
      rw [e]
      refine ⟨fun k hk q => ?_, ?_⟩
      · by_cases ek : k = n
        · rw [ek, hh] at q; cases q
        · exact i1 k (by omega) q
      · rcases i2 with q | ⟨k, q1, q2, q3⟩
        · exact .inl q
        · exact .inr ⟨k, by omega, q2, q3⟩
theorem hg_prop (μ v st w dens : Int) : ∀ n : Nat, (∀ k : Nat, k < n → ftB μ v st w dens k = true → (k : Int) ≤ hgH μ v st w dens n) ∧ (hgH μ v st w dens n = -1 ∨ ∃ k : Nat, k < n ∧ hgH μ v st w dens n = k ∧ ftB μ v st w dens k = true) := by
  intro n
  induction n with
  | zero => exact ⟨fun k hk => by omega, .inl rfl⟩
  | succ n ih =>
    obtain ⟨i1, i2⟩ := ih
    cases hh : ftB μ v st w dens n with
    | true =>
      have e : hgH μ v st w dens (n + 1) = max (hgH μ v st w dens n) n := by show cond _ _ _ = _; rw [hh]; rfl
      rw [e]
      refine ⟨fun k hk q => ?_, ?_⟩
      · by_cases ek : k = n
        · omega
        · have := i1 k (by omega) q; omega
      · rcases Int.le_total (hgH μ v st w dens n) n with q | q
        · rw [Int.max_eq_right q]; exact .inr ⟨n, by omega, rfl, hh⟩
        · rw [Int.max_eq_left q]
          rcases i2 with q2 | ⟨k, q1, q2, q3⟩
          · exact .inl q2
          · exact .inr ⟨k, by omega, q2, q3⟩
    | false =>
      have e : hgH μ v st w dens (n + 1) = hgH μ v st w dens n := by show cond _ _ _ = _; rw [hh]; rfl
      rw [e]
      refine ⟨fun k hk q => ?_, ?_⟩
      · by_cases ek : k = n
        · rw [ek, hh] at q; cases q
        · exact i1 k (by omega) q
      · rcases i2 with q | ⟨k, q1, q2, q3⟩
        · exact .inl q
        · exact .inr ⟨k, by omega, q2, q3⟩
theorem sees_eq {v st d w μ dens : Int} (F : Fl v st d w μ dens) (h1 : dens * v ≤ 1000 * μ) (h2 : 1000 * μ ≤ dens * (v + d * st)) : rdL μ v st d w dens (readN d) = lwL μ v st w dens (readN d) ∧ rdH μ v st d w dens (readN d) = hgH μ v st w dens (readN d) := by
  have hd := F.hd
  have hN : (readN d : Int) = d + 1 := by unfold readN; omega
  obtain ⟨a, b, a1, b1, ab, bd, ha, hb, hall⟩ := ends_of F h1 h2
  have fa : ftB μ v st w dens a = true := by rw [ftB_iff F h1 h2 (by omega)]; exact ha
  have fb : ftB μ v st w dens b = true := by rw [ftB_iff F h1 h2 bd]; exact hb
  rw [a1, b1]
  constructor
  · obtain ⟨p1, p2⟩ := lw_prop μ v st w dens (readN d)
    have q := p1 a (by omega) fa
    rcases p2 with e | ⟨k, k1, k2, k3⟩
    · omega
    · rw [ftB_iff F h1 h2 (by omega)] at k3
      have := (hall k (by omega) k3).1
      omega
  · obtain ⟨p1, p2⟩ := hg_prop μ v st w dens (readN d)
    have q := p1 b (by omega) fb
    rcases p2 with e | ⟨k, k1, k2, k3⟩
    · omega
    · rw [ftB_iff F h1 h2 (by omega)] at k3
      have := (hall k (by omega) k3).2
      omega
/-- the reference's Floats, and the program's -/
theorem rf_flo {m v st d w : Int} {len : Nat} {f : Nat → Nat → Int} {i x : Int} (h : ckS m v st d w len f = 0) (hi : 0 ≤ i ∧ i ≤ len) (hx : 1 ≤ x ∧ x ≤ 2000) : nF m v st d w len f i x = rfI (1000 * mI m f i) (x * v) (x * (v + d * st)) := by
  have hs := stem_of h
  have hμ := (mass_of h hi).2
  have t := top_pos h
  rw [(nF_valid h hi hx).2]
  have l1 := loB_le (μ := mI m f i) (dp := v + d * st) (dens := x) hμ.1 t
  have l2 := le_hiB (μ := mI m f i) (sh := v) (dens := x) hμ.1 (by omega)
  have l3 : x * v ≤ x * (v + d * st) := mul_mono (by omega) (by have := Int.mul_nonneg (a := d) (b := st) (by omega) (by omega); omega)
  by_cases q1 : x * v ≤ 1000 * mI m f i
  · by_cases q2 : 1000 * mI m f i ≤ x * (v + d * st)
    · rw [← rfI_0 q1 q2, rest_0]; exact ⟨l1.2 q2, l2.2 q1⟩
    · rw [← rfI_1 q1 (by omega), rest_m1]
      have : ¬ loB (mI m f i) (v + d * st) ≤ x := fun q => q2 (l1.1 q)
      omega
  · rw [← rfI_2 (by omega), rest_m2]
    have : ¬ x ≤ hiB (mI m f i) v := fun q => q1 (l2.1 q)
    exact ⟨l1.2 (by omega), by omega⟩
end
end Go.Proofs.Ytmmokemjibdinaa
