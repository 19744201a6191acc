/- Tables: what is returned for a valid table. -/
import Derived.Test.YtdgaghmjocokcaaGreatYTaM5
set_option linter.all false
set_option linter.unusedSimpArgs false
set_option linter.unusedVariables false
namespace Go.Proofs.YtdgaghmjocokcaaGreat
open Go Go.Ev
set_option maxRecDepth 1000000
noncomputable section
theorem tmod_bd {a b : Int} (ha : 0 ≤ a) (hb : 1 ≤ b) : 0 ≤ Int.tmod a b ∧ Int.tmod a b < b := by
  rw [Int.tmod_eq_emod_of_nonneg ha]
  exact ⟨Int.emod_nonneg _ (by omega), Int.emod_lt_of_pos _ (by omega)⟩
section
variable {lw : Nat} {fw : Nat → Nat → Int} {lm : Nat} {fm : Nat → Nat → Int} {n : Nat} {ls : Nat → Nat} {f : Nat → Nat → Nat → Int}
theorem at_ok {x y : Int} (h : tabE lw fw lm fm n ls f = 0) (hx : onB lw fw x) (hy : onB lm fm y) : atE lw fw lm fm n ls f x y = 0 ∧ atV lw fw lm fm n ls f x y = strI lw fw lm fm f x y := by
  rcases atE_cases lw fw lm fm n ls f x y with ⟨q, _⟩ | ⟨_, _, q, _⟩ | ⟨_, _, _, _, e1, e2⟩
  · exact absurd h q
  · exact absurd ⟨hx, hy⟩ q
  · exact ⟨e1, e2⟩
theorem bo_ok {a b c d : Int} (h : tabE lw fw lm fm n ls f = 0) (hx : rgB lw fw a b) (hy : rgB lm fm c d) : boE lw fw lm fm n ls f a b c d = 0 ∧ boL lw fw lm fm n ls f a b c d = bdL lw fw lm fm f a b c d ∧ boH lw fw lm fm n ls f a b c d = bdH lw fw lm fm f a b c d := by
  rcases boE_cases lw fw lm fm n ls f a b c d with ⟨q, _⟩ | ⟨_, _, q, _⟩ | ⟨_, _, _, _, e1, e2, e3⟩
  · exact absurd h q
  · exact absurd ⟨hx, hy⟩ q
  · exact ⟨e1, e2, e3⟩
end
end
end Go.Proofs.YtdgaghmjocokcaaGreat
