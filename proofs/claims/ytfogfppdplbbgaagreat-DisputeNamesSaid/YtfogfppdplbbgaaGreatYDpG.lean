/- Stage 11: the closed calls. -/
import Derived.Test.YtfogfppdplbbgaaGreatYDpC0
set_option linter.all false
set_option linter.unusedSimpArgs false
set_option linter.unusedVariables false
namespace Go.Proofs.YtfogfppdplbbgaaGreat
namespace QE
open Go Go.Ev
set_option maxRecDepth 1000000
noncomputable section
theorem rGa:aB Tryz.prog (bW cO) 3000 eGa=true:=by kernel_rfl
theorem rGb:aB Tryz.prog (bW cO) 3000 eGb=true:=by kernel_rfl
end
end QE
end Go.Proofs.YtfogfppdplbbgaaGreat
