/- Stage 10: the closed calls. -/
import Derived.Test.YtifhcelhancnmaaYDuE
set_option linter.all false
set_option linter.unusedSimpArgs false
set_option linter.unusedVariables false
namespace Go.Proofs.Ytifhcelhancnmaa
namespace UE
open Go Go.Ev
set_option maxRecDepth 1000000
noncomputable section
theorem rT0:aZ Try.prog (jd uw) 36 3000 eT0=true:=by kernel_rfl
theorem rTl:dU Try.prog (jd uw) 3000 eTl=true:=by kernel_rfl
theorem rS9:dU Try.prog (jd uw) 3000 eS9=true:=by kernel_rfl
end
end UE
end Go.Proofs.Ytifhcelhancnmaa
