/- Stage 8: the closed calls. -/
import Derived.Test.YtajlhdcpkfmhkaaYSaE
set_option linter.all false
set_option linter.unusedSimpArgs false
set_option linter.unusedVariables false
namespace Go.Proofs.Ytajlhdcpkfmhkaa
namespace SE
open Go Go.Ev
set_option maxRecDepth 1000000
noncomputable section
theorem rO1 : entRunM2 Try.prog (entX eks) 3000 eO1 = true := by kernel_rfl
end
end SE
end Go.Proofs.Ytajlhdcpkfmhkaa
