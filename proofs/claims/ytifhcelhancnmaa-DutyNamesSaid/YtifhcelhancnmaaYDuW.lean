/- Stage 10: the closed calls. -/
import Derived.Test.YtifhcelhancnmaaYDuE
set_option linter.all false
set_option linter.unusedSimpArgs false
set_option linter.unusedVariables false
namespace Go.Proofs.Ytifhcelhancnmaa
namespace UE
open Go Go.Ev
set_option maxRecDepth 1000000
noncomputable section
theorem rV4:aZ Try.prog (jd uw) 36 3000 eV4=true:=by kernel_rfl
theorem rV2:aZ Try.prog (jd uw) 36 3000 eV2=true:=by kernel_rfl
theorem rVd:aZ Try.prog (jd uw) 36 3000 eVd=true:=by kernel_rfl
end
end UE
end Go.Proofs.Ytifhcelhancnmaa
