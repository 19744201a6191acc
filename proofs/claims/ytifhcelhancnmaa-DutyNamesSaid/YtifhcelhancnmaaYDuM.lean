/- Stage 10: the closed calls. -/
import Derived.Test.YtifhcelhancnmaaYDuE
set_option linter.all false
set_option linter.unusedSimpArgs false
set_option linter.unusedVariables false
namespace Go.Proofs.Ytifhcelhancnmaa
namespace UE
open Go Go.Ev
set_option maxRecDepth 1000000
noncomputable section
theorem rL9:dU Try.prog (jd uw) 3000 eL9=true:=by kernel_rfl
end
end UE
end Go.Proofs.Ytifhcelhancnmaa
