/- Stage 11: the closed calls. -/
import Derived.Test.YtfogfppdplbbgaaGreatYDpE
set_option linter.all false
set_option linter.unusedSimpArgs false
set_option linter.unusedVariables false
namespace Go.Proofs.YtfogfppdplbbgaaGreat
namespace QE
open Go Go.Ev
set_option maxRecDepth 1000000
noncomputable section
theorem rCn:bn Tryz.prog fC 3000 eCn=true:=by kernel_rfl
theorem rCt:bn Tryz.prog fC 3000 eCt=true:=by kernel_rfl
theorem rCa:bn Tryz.prog fC 3000 eCa=true:=by kernel_rfl
theorem rCb:bn Tryz.prog fC 3000 eCb=true:=by kernel_rfl
end
end QE
end Go.Proofs.YtfogfppdplbbgaaGreat
