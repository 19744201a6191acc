/- Tables: what is returned for a valid table. -/
import Derived.Test.YtiplgejpopellaaGreatYTaM5
set_option linter.all false
set_option linter.unusedSimpArgs false
set_option linter.unusedVariables false
namespace Go.Proofs.YtiplgejpopellaaGreat
open Go Go.Ev
set_option maxRecDepth 1000000
noncomputable section
section
variable {A:Nat} {B:Nat→Nat→Int} {I:Nat} {J:Nat→Nat→Int} {n:Nat} {M:Nat→Nat} {f:Nat→Nat→Nat→Int}
theorem aaD {a b c d:Int} (h:aT A B I J n M f=0) (hx:qp A B a b) (hy:qp I J c d):boE A B I J n M f a b c d=0∧boL A B I J n M f a b c d=dO A B I J f a b c d∧boH A B I J n M f a b c d=dP A B I J f a b c d:=by
 rcases DY A B I J n M f a b c d with ⟨q,_⟩ | ⟨_,_,q,_⟩ | ⟨_,_,_,_,e1,e2,e3⟩
 ·exact absurd h q
 ·exact absurd ⟨hx,hy⟩ q
 ·exact ⟨e1,e2,e3⟩
end
end
end Go.Proofs.YtiplgejpopellaaGreat
