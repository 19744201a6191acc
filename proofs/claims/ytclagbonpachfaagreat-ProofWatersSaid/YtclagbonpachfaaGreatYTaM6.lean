/- Tables: what is returned for a valid table. -/
import Derived.Test.YtclagbonpachfaaGreatYTaM5
set_option linter.all false
set_option linter.unusedSimpArgs false
set_option linter.unusedVariables false
namespace Go.Proofs.YtclagbonpachfaaGreat
open Go Go.Ev
set_option maxRecDepth 1000000
noncomputable section
section
variable {lw:Nat} {fw:Nat→Nat→Int} {lm:Nat} {fm:Nat→Nat→Int} {n:Nat} {ls:Nat→Nat} {f:Nat→Nat→Nat→Int}
theorem bo_ok {a b c d:Int} (h:tabE lw fw lm fm n ls f=0) (hx:rgB lw fw a b) (hy:rgB lm fm c d):boE lw fw lm fm n ls f a b c d=0∧boL lw fw lm fm n ls f a b c d=bdL lw fw lm fm f a b c d∧boH lw fw lm fm n ls f a b c d=bdH lw fw lm fm f a b c d:=by
  rcases boE_cases lw fw lm fm n ls f a b c d with ⟨q,_⟩ | ⟨_,_,q,_⟩ | ⟨_,_,_,_,e1,e2,e3⟩
  · exact absurd h q
  · exact absurd ⟨hx,hy⟩ q
  · exact ⟨e1,e2,e3⟩
end
end
end Go.Proofs.YtclagbonpachfaaGreat
