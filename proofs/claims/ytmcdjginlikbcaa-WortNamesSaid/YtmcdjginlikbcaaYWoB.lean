/- Stage 6: the closed calls. -/
import Derived.Test.YtmcdjginlikbcaaYWoE
set_option linter.all false
set_option linter.unusedSimpArgs false
set_option linter.unusedVariables false
namespace Go.Proofs.Ytmcdjginlikbcaa
namespace WE
open Go Go.Ev WO
set_option maxRecDepth 1000000
noncomputable section
theorem rB : entRunM2 Try.prog XK 3000 eB = true := by kernel_rfl
end
end WE
end Go.Proofs.Ytmcdjginlikbcaa
