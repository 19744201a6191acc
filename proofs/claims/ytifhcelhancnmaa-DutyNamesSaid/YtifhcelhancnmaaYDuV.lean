/- Stage 10: the closed calls. -/
import Derived.Test.YtifhcelhancnmaaYDuE
set_option linter.all false
set_option linter.unusedSimpArgs false
set_option linter.unusedVariables false
namespace Go.Proofs.Ytifhcelhancnmaa
namespace UE
open Go Go.Ev
set_option maxRecDepth 1000000
noncomputable section
theorem rVn:aZ Try.prog (jd uw) 36 3000 eVn=true:=by kernel_rfl
theorem rV3:aZ Try.prog (jd uw) 36 3000 eV3=true:=by kernel_rfl
end
end UE
end Go.Proofs.Ytifhcelhancnmaa
