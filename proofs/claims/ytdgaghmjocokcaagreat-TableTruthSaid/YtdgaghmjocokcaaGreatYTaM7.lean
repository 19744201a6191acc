/- Tables: what can mean strengths; ranges by words. -/
import Derived.Test.YtdgaghmjocokcaaGreatYTaW1
set_option linter.all false
set_option linter.unusedSimpArgs false
set_option linter.unusedVariables false
namespace Go.Proofs.YtdgaghmjocokcaaGreat
open Go Go.Ev
set_option maxRecDepth 1000000
noncomputable section
theorem any_t {lo hi : Int} {g : Nat → Nat → Int} {len : Nat} : anyI lo hi g len = true ↔ ∃ i, i < len ∧ lo ≤ g i 0 ∧ g i 0 ≤ hi := by
  unfold anyI
  constructor
  · intro h
    rcases first_bad (noB lo hi g) len with q | ⟨N, h1, h2, h3⟩
    · rw [allN_true q] at h; cases h
    · have := no_f h3
      unfold inB at this
      exact ⟨N, h1, of_decide_eq_true this⟩
  · rintro ⟨i, hi, e⟩
    rw [allN_false hi (by unfold noB inB; rw [decide_eq_true e]; rfl)]; rfl
section
variable {lw : Nat} {fw : Nat → Nat → Int} {lm : Nat} {fm : Nat → Nat → Int} {n : Nat} {ls : Nat → Nat} {f : Nat → Nat → Nat → Int} {wl wh sl sh m : Int}
theorem okm_t (h : wl ≤ wh) : okm lw fw lm fm f wl wh sl sh m = true ↔ ∃ x, (wl ≤ x ∧ x ≤ wh) ∧ sl ≤ strI lw fw lm fm f x m ∧ strI lw fw lm fm f x m ≤ sh := by
  unfold okm
  rw [any_t]
  constructor
  · rintro ⟨t, ht, h1, h2⟩
    obtain ⟨x, y, hx, hy, e⟩ := at_pt (lw := lw) (fw := fw) (lm := lm) (fm := fm) (f := f) (a := wl) (b := wh) (c := m) (d := m) h (Int.le_refl _) (t := t) ht
    have ey : y = m := by omega
    subst ey
    exact ⟨x, hx, by rw [← e]; exact h1, by rw [← e]; exact h2⟩
  · rintro ⟨x, hx, h1, h2⟩
    obtain ⟨t, t1, t2⟩ := pt_at (lw := lw) (fw := fw) (lm := lm) (fm := fm) (f := f) (a := wl) (b := wh) (c := m) (d := m) h (Int.le_refl _) hx (y := m) ⟨Int.le_refl _, Int.le_refl _⟩
    exact ⟨t, t1, by rw [t2]; exact h1, by rw [t2]; exact h2⟩
theorem mkR_mem (ok : TabOk lw fw lm fm n ls f) (h : wl ≤ wh) {x : Int} : (∃ i, i < mcN lw fw lm fm f wl wh sl sh ∧ mkR lw fw lm fm f wl wh sl sh i 0 = x) ↔ (onB lm fm x ∧ ∃ y, (wl ≤ y ∧ y ≤ wh) ∧ sl ≤ strI lw fw lm fm f y x ∧ strI lw fw lm fm f y x ≤ sh) := by
  have m2 := ok.m.two
  have hK : ((nK lm fm : Nat) : Int) = fm (lm - 1) 0 - fm 0 0 + 1 := by
    have := lines_le ok.m (show 0 ≤ lm - 1 by omega) (by omega)
    unfold nK; omega
  have := mk_mem (okm lw fw lm fm f wl wh sl sh) (fm 0 0) (k := nK lm fm) (x := x)
  rw [okm_t h] at this
  constructor
  · intro q
    obtain ⟨q1, q2, q3⟩ := this.mp q
    exact ⟨⟨q1, by omega⟩, q3⟩
  · rintro ⟨q1, q3⟩
    have q2 := q1.2
    exact this.mpr ⟨q1.1, by omega, q3⟩
theorem mcN_le (ok : TabOk lw fw lm fm n ls f) : mcN lw fw lm fm f wl wh sl sh ≤ 61 := by
  have m2 := ok.m.two
  have ma := ok.m.inn 0 (by omega)
  have mz := ok.m.inn (lm - 1) (by omega)
  have := cnt_le (okm lw fw lm fm f wl wh sl sh) (fm 0 0) (nK lm fm)
  have hK : nK lm fm ≤ 61 := by unfold nK; omega
  exact Nat.le_trans this hK
theorem me_ok (h : tabE lw fw lm fm n ls f = 0) (hw : rgB lw fw wl wh) (hs : sl ≤ sh) : (mcN lw fw lm fm f wl wh sl sh = 0 ∧ meE lw fw lm fm n ls f wl wh sl sh = 7 ∧ meN lw fw lm fm n ls f wl wh sl sh = 0) ∨ (¬ mcN lw fw lm fm f wl wh sl sh = 0 ∧ meE lw fw lm fm n ls f wl wh sl sh = 0 ∧ meN lw fw lm fm n ls f wl wh sl sh = mcN lw fw lm fm f wl wh sl sh) := by
  rcases meE_cases lw fw lm fm n ls f wl wh sl sh with ⟨q, _⟩ | ⟨_, _, q, _⟩ | ⟨_, _, _, _, e0, e1, e2⟩ | ⟨_, _, _, _, e0, e1, e2⟩
  · exact absurd h q
  · exact absurd ⟨hw, hs⟩ q
  · exact .inl ⟨e0, e1, e2⟩
  · exact .inr ⟨e0, e1, e2⟩
theorem meN_eq (h : tabE lw fw lm fm n ls f = 0) (hw : rgB lw fw wl wh) (hs : sl ≤ sh) : meN lw fw lm fm n ls f wl wh sl sh = mcN lw fw lm fm f wl wh sl sh := by
  rcases me_ok h hw hs with ⟨e0, _, e2⟩ | ⟨_, _, e2⟩
  · rw [e2, e0]
  · exact e2
theorem bd_wider {a b c d a' b' c' d' : Int} (h1 : a ≤ b) (h2 : c ≤ d) (h3 : a' ≤ a) (h4 : b ≤ b') (h5 : c' ≤ c) (h6 : d ≤ d') : bdL lw fw lm fm f a' b' c' d' ≤ bdL lw fw lm fm f a b c d ∧ bdH lw fw lm fm f a b c d ≤ bdH lw fw lm fm f a' b' c' d' := by
  constructor
  · obtain ⟨x, y, hx, hy, e⟩ := bdL_at (lw := lw) (fw := fw) (lm := lm) (fm := fm) (f := f) h1 h2
    rw [e]
    exact (bd_in (by omega) (by omega) ⟨by omega, by omega⟩ ⟨by omega, by omega⟩).1
  · obtain ⟨x, y, hx, hy, e⟩ := bdH_at (lw := lw) (fw := fw) (lm := lm) (fm := fm) (f := f) h1 h2
    rw [e]
    exact (bd_in (by omega) (by omega) ⟨by omega, by omega⟩ ⟨by omega, by omega⟩).2
end
theorem lines_ln {len : Nat} {g : Nat → Nat → Int} {m : Int} (h : LinesOk len g m) (hm : m ≤ 1000) : lnB len g = true := by
  have h2 := h.two
  have h0 := h.inn 0 (by omega)
  have h9 := h.inn (len - 1) (by omega)
  exact cond_mk (ble_mk (by omega)) (cond_mk (leB_mk h0.1 (lines_le h (by omega) (by omega))) ((iLe_t _ _).mpr (by omega)))
theorem pk_on {len : Nat} {g : Nat → Nat → Int} {m a : Int} (h : LinesOk len g m) (ha : 0 ≤ a) : onB len g (pkI len g a) := by
  have h2 := h.two
  have h0 := lines_le h (show 0 ≤ len - 1 by omega) (by omega)
  have := tmod_bd' (a := a) (b := g (len - 1) 0 - g 0 0) ha (by omega)
  unfold pkI onB
  omega
theorem tw_rg {len : Nat} {g : Nat → Nat → Int} {m a b : Int} (h : LinesOk len g m) (ha : 0 ≤ a) (hb : 0 ≤ b) : rgB len g (twL len g a b) (twH len g a b) := by
  have p := pk_on h ha
  have q := pk_on h hb
  unfold onB at p q
  unfold rgB onB twL twH
  omega
theorem tdiv_le {a b : Int} (ha : 0 ≤ a) (hb : 1 ≤ b) : 0 ≤ Int.tdiv a b ∧ Int.tdiv a b ≤ a := by
  rw [Int.tdiv_eq_ediv_of_nonneg ha]
  exact ⟨Int.ediv_nonneg ha (by omega), Int.ediv_le_self _ ha⟩
end
end Go.Proofs.YtdgaghmjocokcaaGreat
