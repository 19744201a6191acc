/- Stage 3: a closed call that writes what is known. -/
import Derived.Test.YthakjbbhbnhmeaaGreatYHtA1
set_option linter.all false
set_option linter.unusedSimpArgs false
set_option linter.unusedVariables false
namespace Go.Proofs.YthakjbbhbnhmeaaGreat
namespace HE
open Go Go.Ev
set_option maxRecDepth 1000000
noncomputable section
theorem WN:dK Tryz.prog XM 3000 Td=true:=by kernel_rfl
end
end HE
end Go.Proofs.YthakjbbhbnhmeaaGreat
