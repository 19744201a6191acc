/- Stage 3: a closed call that writes what is known. -/
import Derived.Test.YthakjbbhbnhmeaaYHtA1
set_option linter.all false
set_option linter.unusedSimpArgs false
set_option linter.unusedVariables false
namespace Go.Proofs.Ythakjbbhbnhmeaa
namespace HE
open Go Go.Ev
set_option maxRecDepth 1000000
noncomputable section
theorem XK:dX Try.prog XM 3000 Ub=true:=by kernel_rfl
end
end HE
end Go.Proofs.Ythakjbbhbnhmeaa
