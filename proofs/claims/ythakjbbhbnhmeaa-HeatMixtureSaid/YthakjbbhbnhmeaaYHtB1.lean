/- Stage 3: a closed call. -/
import Derived.Test.YthakjbbhbnhmeaaYHtYa
set_option linter.all false
set_option linter.unusedSimpArgs false
set_option linter.unusedVariables false
namespace Go.Proofs.Ythakjbbhbnhmeaa
namespace HE
open Go Go.Ev
set_option maxRecDepth 1000000
noncomputable section
theorem rB1:qp Try.prog (entX eks) (ents3 ya) 3000 eB1=true:=by kernel_rfl
end
end HE
end Go.Proofs.Ythakjbbhbnhmeaa
