/- Stage 5: the closed calls. -/
import Derived.Test.YtflblednifbleaaYCaE
set_option linter.all false
set_option linter.unusedSimpArgs false
set_option linter.unusedVariables false
namespace Go.Proofs.Ytflblednifbleaa
namespace CE
open Go Go.Ev
set_option maxRecDepth 1000000
noncomputable section
theorem rB3:pz Try.prog (EM eks) 3000 eB3=true:=by kernel_rfl
end
end CE
end Go.Proofs.Ytflblednifbleaa
