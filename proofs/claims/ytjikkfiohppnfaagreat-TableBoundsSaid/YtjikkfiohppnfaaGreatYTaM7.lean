/- Tables: what can mean strengths; ranges by words. -/
import Derived.Test.YtjikkfiohppnfaaGreatYTaW1
set_option linter.all false
set_option linter.unusedSimpArgs false
set_option linter.unusedVariables false
namespace Go.Proofs.YtjikkfiohppnfaaGreat
open Go Go.Ev
set_option maxRecDepth 1000000
noncomputable section
theorem any_t {lo hi : Int} {g : Nat → Nat → Int} {len : Nat} : anyI lo hi g len = true ↔ ∃ i, i < len ∧ lo ≤ g i 0 ∧ g i 0 ≤ hi := by
  unfold anyI
  constructor
  · intro h
    rcases first_bad (noB lo hi g) len with q | ⟨N, h1, h2, h3⟩
    · rw [allN_true q] at h; cases h
    · have := no_f h3
      unfold inB at this
      exact ⟨N, h1, of_decide_eq_true this⟩
  · rintro ⟨i, hi, e⟩
    rw [allN_false hi (by unfold noB inB; rw [decide_eq_true e]; rfl)]; rfl
section
variable {lw : Nat} {fw : Nat → Nat → Int} {lm : Nat} {fm : Nat → Nat → Int} {n : Nat} {ls : Nat → Nat} {f : Nat → Nat → Nat → Int} {wl wh sl sh m : Int}
theorem me_ok (h : tabE lw fw lm fm n ls f = 0) (hw : rgB lw fw wl wh) (hs : sl ≤ sh) : (mcN lw fw lm fm f wl wh sl sh = 0 ∧ meE lw fw lm fm n ls f wl wh sl sh = 7 ∧ meN lw fw lm fm n ls f wl wh sl sh = 0) ∨ (¬ mcN lw fw lm fm f wl wh sl sh = 0 ∧ meE lw fw lm fm n ls f wl wh sl sh = 0 ∧ meN lw fw lm fm n ls f wl wh sl sh = mcN lw fw lm fm f wl wh sl sh) := by
  rcases meE_cases lw fw lm fm n ls f wl wh sl sh with ⟨q, _⟩ | ⟨_, _, q, _⟩ | ⟨_, _, _, _, e0, e1, e2⟩ | ⟨_, _, _, _, e0, e1, e2⟩
  · exact absurd h q
  · exact absurd ⟨hw, hs⟩ q
  · exact .inl ⟨e0, e1, e2⟩
  · exact .inr ⟨e0, e1, e2⟩
end
end
end Go.Proofs.YtjikkfiohppnfaaGreat
