/- Stage 1: the mathematics of a spindle: ends of divisions, and which of them can be read. -/
import Derived.Test.YtmmokemjibdinaaYCa
set_option linter.all false
set_option linter.unusedSimpArgs false
set_option linter.unusedVariables false
namespace Go.Proofs.Ytmmokemjibdinaa
open Go Go.Ev
noncomputable section
theorem loB_le {μ dp dens : Int} (h : 1 ≤ μ) (h1 : 1 ≤ dp) : loB μ dp ≤ dens ↔ 1000 * μ ≤ dens * dp := by
  unfold loB
  rw [Int.tdiv_eq_ediv_of_nonneg (by omega)]
  constructor
  · intro q
    have q2 : (1000 * μ + dp - 1) / dp < dens + 1 := by omega
    rw [Int.ediv_lt_iff_lt_mul (by omega)] at q2
    rw [Int.add_mul] at q2
    omega
  · intro q
    have : (1000 * μ + dp - 1) / dp < dens + 1 := by
      rw [Int.ediv_lt_iff_lt_mul (by omega), Int.add_mul]
      omega
    omega
theorem le_hiB {μ sh dens : Int} (h : 1 ≤ μ) (h1 : 1 ≤ sh) : dens ≤ hiB μ sh ↔ dens * sh ≤ 1000 * μ := by
  unfold hiB
  rw [Int.tdiv_eq_ediv_of_nonneg (by omega), Int.le_ediv_iff_mul_le (by omega)]
/-- a spindle whose stem is valid, with a mass, in a density in which it floats -/
structure Fl (v st d w μ dens : Int) : Prop where
  hv : 1 ≤ v ∧ v ≤ 5000
  hst : 1 ≤ st ∧ st ≤ 100
  hd : 1 ≤ d ∧ d ≤ 20
  hw : 1 ≤ w ∧ w ≤ st ∧ st ≤ 2 * w
  hμ : 1 ≤ μ ∧ μ ≤ 6000
  hdens : 1 ≤ dens ∧ dens ≤ 2000
def Up' (v st w μ dens k : Int) : Prop := dens * shal v st w k ≤ 1000 * μ
def Dn' (v st d w μ dens k : Int) : Prop := 1000 * μ ≤ dens * deep v st d w k
theorem mul_mono {a b c : Int} (h : 0 ≤ a) (h1 : b ≤ c) : a * b ≤ a * c := Int.mul_le_mul_of_nonneg_left h1 h
theorem hB_iff {v st d w μ dens : Int} (F : Fl v st d w μ dens) {k : Nat} (hk : (k : Int) ≤ d) : hB μ v st d w dens k = true ↔ Up' v st w μ dens k ∧ Dn' v st d w μ dens k := by
  have hs : 1 ≤ (1 : Int) ∧ (1 : Int) ≤ 5000 ∧ 1 ≤ v ∧ v ≤ 5000 ∧ 1 ≤ st ∧ st ≤ 100 ∧ 1 ≤ d ∧ d ≤ 20 ∧ 1 ≤ w ∧ w ≤ st ∧ st ≤ 2 * w := ⟨by omega, by omega, F.hv.1, F.hv.2, F.hst.1, F.hst.2, F.hd.1, F.hd.2, F.hw.1, F.hw.2.1, F.hw.2.2⟩
  obtain ⟨b1, b2, b3⟩ := shal_bd hs (s := (k : Int)) ⟨by omega, hk⟩
  have e1 : mnL μ v st d w k = max 1 (loB μ (deep v st d w k)) := by unfold mnL; rw [(iEq_f _ _).mpr (by omega), (iEq_f _ _).mpr (by omega)]; rfl
  have e2 : mnH μ v st d w k = min 2000 (hiB μ (shal v st w k)) := by unfold mnH; rw [(iEq_f _ _).mpr (by omega), (iEq_f _ _).mpr (by omega)]; rfl
  have p1 := loB_le (μ := μ) (dp := deep v st d w k) (dens := dens) F.hμ.1 b2
  have p2 := le_hiB (μ := μ) (sh := shal v st w k) (dens := dens) F.hμ.1 b1
  have hd := F.hdens
  unfold Up' Dn' hB
  rw [e1, e2]
  constructor
  · intro h
    obtain ⟨q1, q2⟩ := cond_tt h
    rw [iLe_t] at q1 q2
    exact ⟨p2.1 (by omega), p1.1 (by omega)⟩
  · rintro ⟨q1, q2⟩
    have q1 := p2.2 q1
    have q2 := p1.2 q2
    exact cond_mk ((iLe_t _ _).mpr (by omega)) ((iLe_t _ _).mpr (by omega))
theorem deep_top {v st d w : Int} (hw : 1 ≤ w) : deep v st d w d = v + d * st := by unfold deep; omega
theorem up0 {v st w μ dens : Int} (hw : 1 ≤ w) (h : dens * v ≤ 1000 * μ) : Up' v st w μ dens 0 := by
  unfold Up' shal
  rw [show max v (v + 0 * st - w) = v by omega]; exact h
/-- what is not deep enough at a division is shallow enough at the next one -/
theorem next_up {v st d w μ dens k : Int} (F : Fl v st d w μ dens) (h1 : dens * v ≤ 1000 * μ) (h2 : 1000 * μ ≤ dens * (v + d * st)) (h : ¬ Dn' v st d w μ dens k) : Up' v st w μ dens (k + 1) := by
  unfold Dn' deep at h
  unfold Up' shal
  have hd := F.hdens
  have hw := F.hw
  have q : dens * (v + k * st + w) < 1000 * μ := by
    rcases Int.le_total (v + d * st) (v + k * st + w) with q | q
    · rw [Int.min_eq_left q] at h; omega
    · rw [Int.min_eq_right q] at h; omega
  rcases Int.le_total v (v + (k + 1) * st - w) with q2 | q2
  · rw [Int.max_eq_right q2]
    have := mul_mono (a := dens) (b := v + (k + 1) * st - w) (c := v + k * st + w) (by omega) (by rw [Int.add_mul]; omega)
    omega
  · rw [Int.max_eq_left q2]; exact h1
theorem prev_dn {v st d w μ dens k : Int} (F : Fl v st d w μ dens) (h1 : dens * v ≤ 1000 * μ) (h2 : 1000 * μ ≤ dens * (v + d * st)) (h : ¬ Up' v st w μ dens (k + 1)) : Dn' v st d w μ dens k := by
  unfold Up' shal at h
  unfold Dn' deep
  have hd := F.hdens
  have hw := F.hw
  have q : 1000 * μ < dens * (v + (k + 1) * st - w) := by
    rcases Int.le_total v (v + (k + 1) * st - w) with q | q
    · rw [Int.max_eq_right q] at h; omega
    · rw [Int.max_eq_left q] at h; omega
  rcases Int.le_total (v + d * st) (v + k * st + w) with q2 | q2
  · rw [Int.min_eq_left q2]; exact h2
  · rw [Int.min_eq_right q2]
    have := mul_mono (a := dens) (b := v + (k + 1) * st - w) (c := v + k * st + w) (by omega) (by rw [Int.add_mul]; omega)
    omega
theorem up_find {v st d w μ dens : Int} (F : Fl v st d w μ dens) (h1 : dens * v ≤ 1000 * μ) (h2 : 1000 * μ ≤ dens * (v + d * st)) : ∀ (n k : Nat), (d : Int) - k ≤ n → (k : Int) ≤ d → Up' v st w μ dens k → ∃ j : Nat, k ≤ j ∧ (j : Int) ≤ d ∧ hB μ v st d w dens j = true := by
  intro n
  induction n with
  | zero =>
    intro k hn hk hu
    have e : (k : Int) = d := by omega
    refine ⟨k, Nat.le_refl _, hk, (hB_iff F hk).2 ⟨hu, ?_⟩⟩
    unfold Dn'; rw [e, deep_top F.hw.1]; exact h2
  | succ n ih =>
    intro k hn hk hu
    by_cases hd : Dn' v st d w μ dens k
    · exact ⟨k, Nat.le_refl _, hk, (hB_iff F hk).2 ⟨hu, hd⟩⟩
    · have hkd : (k : Int) < d := by
        by_cases q : (k : Int) < d
        · exact q
        · have e : (k : Int) = d := by omega
          exfalso; apply hd; unfold Dn'; rw [e, deep_top F.hw.1]; exact h2
      obtain ⟨j, q1, q2, q3⟩ := ih (k + 1) (by omega) (by omega) (by have := next_up F h1 h2 hd; simpa using this)
      exact ⟨j, by omega, q2, q3⟩
theorem dn_find {v st d w μ dens : Int} (F : Fl v st d w μ dens) (h1 : dens * v ≤ 1000 * μ) (h2 : 1000 * μ ≤ dens * (v + d * st)) : ∀ (k : Nat), (k : Int) ≤ d → Dn' v st d w μ dens k → ∃ j : Nat, j ≤ k ∧ hB μ v st d w dens j = true := by
  intro k
  induction k with
  | zero => intro hk hd; exact ⟨0, Nat.le_refl _, (hB_iff F hk).2 ⟨up0 F.hw.1 h1, hd⟩⟩
  | succ k ih =>
    intro hk hd
    by_cases hu : Up' v st w μ dens (k + 1 : Nat)
    · exact ⟨k + 1, Nat.le_refl _, (hB_iff F hk).2 ⟨hu, hd⟩⟩
    · obtain ⟨j, q1, q2⟩ := ih (by omega) (prev_dn F h1 h2 (by simpa using hu))
      exact ⟨j, by omega, q2⟩
/-! the ends of what can be read -/
theorem rdH_prop (μ v st d w dens : Int) : ∀ n : Nat, (∀ k : Nat, k < n → hB μ v st d w dens k = true → (k : Int) ≤ rdH μ v st d w dens n) ∧ ((rdH μ v st d w dens n = 0 ∧ ∀ k : Nat, k < n → hB μ v st d w dens k = false) ∨ ∃ k : Nat, k < n ∧ rdH μ v st d w dens n = k ∧ hB μ v st d w dens k = true) := by
  intro n
  induction n with
  | zero => exact ⟨fun k hk => by omega, .inl ⟨rfl, fun k hk => by omega⟩⟩
  | succ n ih =>
    obtain ⟨i1, i2⟩ := ih
    cases hh : hB μ v st d w dens n with
    | true =>
      have e : rdH μ v st d w dens (n + 1) = n := by show cond _ _ _ = _; rw [hh]; rfl
      rw [e]
      exact ⟨fun k hk _ => by omega, .inr ⟨n, by omega, rfl, hh⟩⟩
    | false =>
      have e : rdH μ v st d w dens (n + 1) = rdH μ v st d w dens n := by show cond _ _ _ = _; rw [hh]; rfl
      rw [e]
      refine ⟨fun k hk q => ?_, ?_⟩
      · by_cases ek : k = n
        · rw [ek, hh] at q; cases q
        · exact i1 k (by omega) q
      · rcases i2 with ⟨q1, q2⟩ | ⟨k, q1, q2, q3⟩
        · refine .inl ⟨q1, fun k hk => ?_⟩
          by_cases ek : k = n
          · rw [ek]; exact hh
          · exact q2 k (by omega)
        · exact .inr ⟨k, by omega, q2, q3⟩
theorem rdL_prop (μ v st d w dens : Int) : ∀ n : Nat, (n : Int) ≤ d + 1 → (∀ k : Nat, k < n → hB μ v st d w dens k = true → rdL μ v st d w dens n ≤ k) ∧ (rdL μ v st d w dens n = d ∨ ∃ k : Nat, k < n ∧ rdL μ v st d w dens n = k ∧ hB μ v st d w dens k = true) ∧ (∀ k : Nat, k < n → hB μ v st d w dens k = true → ∃ j : Nat, j < n ∧ rdL μ v st d w dens n = j ∧ hB μ v st d w dens j = true) := by
  intro n
  induction n with
  | zero => intro _; exact ⟨fun k hk => by omega, .inl rfl, fun k hk => by omega⟩
  | succ n ih =>
    intro hn
    obtain ⟨i1, i2, i3⟩ := ih (by omega)
    cases hh : hB μ v st d w dens n with
    | true =>
      have e : rdL μ v st d w dens (n + 1) = min (rdL μ v st d w dens n) n := by show cond _ _ _ = _; rw [hh]; rfl
      rw [e]
      have key : ∃ j : Nat, j < n + 1 ∧ min (rdL μ v st d w dens n) n = j ∧ hB μ v st d w dens j = true := by
        rcases i2 with q | ⟨k, q1, q2, q3⟩
        · exact ⟨n, by omega, by omega, hh⟩
        · exact ⟨k, by omega, by omega, q3⟩
      refine ⟨fun k hk q => ?_, .inr key, fun _ _ _ => key⟩
      by_cases ek : k = n
      · omega
      · have := i1 k (by omega) q; omega
    | false =>
      have e : rdL μ v st d w dens (n + 1) = rdL μ v st d w dens n := by show cond _ _ _ = _; rw [hh]; rfl
      rw [e]
      refine ⟨fun k hk q => ?_, ?_, fun k hk q => ?_⟩
      · by_cases ek : k = n
        · rw [ek, hh] at q; cases q
        · exact i1 k (by omega) q
      · rcases i2 with q | ⟨k, q1, q2, q3⟩
        · exact .inl q
        · exact .inr ⟨k, by omega, q2, q3⟩
      · by_cases ek : k = n
        · rw [ek, hh] at q; cases q
        · obtain ⟨j, q1, q2, q3⟩ := i3 k (by omega) q
          exact ⟨j, by omega, q2, q3⟩
/-- in a density in which the spindle floats, both ends are divisions that can be read, and there are no others beyond them -/
theorem ends_of {v st d w μ dens : Int} (F : Fl v st d w μ dens) (h1 : dens * v ≤ 1000 * μ) (h2 : 1000 * μ ≤ dens * (v + d * st)) :
    ∃ a b : Nat, rdL μ v st d w dens (readN d) = a ∧ rdH μ v st d w dens (readN d) = b ∧ a ≤ b ∧ (b : Int) ≤ d ∧ hB μ v st d w dens a = true ∧ hB μ v st d w dens b = true ∧ ∀ k : Nat, (k : Int) ≤ d → hB μ v st d w dens k = true → a ≤ k ∧ k ≤ b := by
  have hd := F.hd
  have hN : (readN d : Int) = d + 1 := by unfold readN; omega
  obtain ⟨j, _, j2, j3⟩ := up_find F h1 h2 (Int.toNat d) 0 (by omega) (by omega) (by have := up0 (st := st) F.hw.1 h1; simpa using this)
  obtain ⟨p1, p2⟩ := rdH_prop μ v st d w dens (readN d)
  obtain ⟨l1, _, l3⟩ := rdL_prop μ v st d w dens (readN d) (by omega)
  obtain ⟨a, a1, a2, a3⟩ := l3 j (by omega) j3
  obtain ⟨b, b1, b2, b3⟩ : ∃ k : Nat, k < readN d ∧ rdH μ v st d w dens (readN d) = k ∧ hB μ v st d w dens k = true := by
    rcases p2 with ⟨_, q⟩ | q
    · rw [q j (by omega)] at j3; cases j3
    · exact q
  refine ⟨a, b, a2, b2, ?_, by omega, a3, b3, fun k hk hh => ?_⟩
  · have := l1 b b1 b3; rw [a2] at this; omega
  · have q1 := l1 k (by omega) hh
    have q2 := p1 k (by omega) hh
    rw [a2] at q1; rw [b2] at q2
    omega
/-- denser, or lighter: both ends fall -/
theorem ends_mono {v st d w μ ν dens u : Int} (F : Fl v st d w μ dens) (G : Fl v st d w ν u) (h1 : dens * v ≤ 1000 * μ) (h2 : 1000 * μ ≤ dens * (v + d * st)) (g1 : u * v ≤ 1000 * ν) (g2 : 1000 * ν ≤ u * (v + d * st)) (hu : dens ≤ u) (hν : ν ≤ μ) :
    rdL ν v st d w u (readN d) ≤ rdL μ v st d w dens (readN d) ∧ rdH ν v st d w u (readN d) ≤ rdH μ v st d w dens (readN d) := by
  obtain ⟨a, b, a1, b1, ab, bd, ha, hb, hall⟩ := ends_of F h1 h2
  obtain ⟨a', b', a1', b1', ab', bd', ha', hb', hall'⟩ := ends_of G g1 g2
  rw [a1, b1, a1', b1']
  have hs : ∀ k : Nat, (k : Int) ≤ d → 1 ≤ shal v st w k ∧ 1 ≤ deep v st d w k := fun k hk => by
    have := shal_bd (m := 1) (v := v) (st := st) (d := d) (w := w) ⟨by omega, by omega, F.hv.1, F.hv.2, F.hst.1, F.hst.2, F.hd.1, F.hd.2, F.hw.1, F.hw.2.1, F.hw.2.2⟩ (s := (k : Int)) ⟨by omega, hk⟩
    exact ⟨this.1, this.2.1⟩
  constructor
  · -- the division a is deep enough in the denser liquid, too
    have q := ((hB_iff F (by omega)).1 ha).2
    have q' : Dn' v st d w ν u a := by
      unfold Dn' at q ⊢
      have := Int.mul_le_mul_of_nonneg_right hu (show 0 ≤ deep v st d w a by have := (hs a (by omega)).2; omega)
      omega
    obtain ⟨j, j1, j2⟩ := dn_find G g1 g2 a (by omega) q'
    have := (hall' j (by omega) j2).1
    omega
  · have q := ((hB_iff G (by omega)).1 hb').1
    have q' : Up' v st w μ dens b' := by
      unfold Up' at q ⊢
      have := Int.mul_le_mul_of_nonneg_right hu (show 0 ≤ shal v st w b' by have := (hs b' (by omega)).1; omega)
      omega
    obtain ⟨j, j1, j2, j3⟩ := up_find F h1 h2 (Int.toNat d) b' (by omega) (by omega) q'
    have := (hall j j2 j3).2
    omega
end
end Go.Proofs.Ytmmokemjibdinaa
