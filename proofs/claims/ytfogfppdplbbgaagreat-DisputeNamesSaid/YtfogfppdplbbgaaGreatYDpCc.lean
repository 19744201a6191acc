/- Stage 11: the closed calls. -/
import Derived.Test.YtfogfppdplbbgaaGreatYDpE
set_option linter.all false
set_option linter.unusedSimpArgs false
set_option linter.unusedVariables false
namespace Go.Proofs.YtfogfppdplbbgaaGreat
namespace QE
open Go Go.Ev
set_option maxRecDepth 1000000
noncomputable section
theorem JW:bn Tryz.prog fC 3000 I8=true:=by kernel_rfl
theorem IX:bn Tryz.prog fC 3000 GU=true:=by kernel_rfl
end
end QE
end Go.Proofs.YtfogfppdplbbgaaGreat
