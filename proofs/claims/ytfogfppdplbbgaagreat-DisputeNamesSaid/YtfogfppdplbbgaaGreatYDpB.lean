/- Stage 11: the closed calls. -/
import Derived.Test.YtfogfppdplbbgaaGreatYDpC0
set_option linter.all false
set_option linter.unusedSimpArgs false
set_option linter.unusedVariables false
namespace Go.Proofs.YtfogfppdplbbgaaGreat
namespace QE
open Go Go.Ev
set_option maxRecDepth 1000000
noncomputable section
theorem rB3:aB Tryz.prog (bW cO) 3000 eB3=true:=by kernel_rfl
theorem rB2:aB Tryz.prog (bW cO) 3000 eB2=true:=by kernel_rfl
theorem rLt:aB Tryz.prog (bW cO) 3000 eLt=true:=by kernel_rfl
theorem rGt:aB Tryz.prog (bW cO) 3000 eGt=true:=by kernel_rfl
theorem rHu:aB Tryz.prog (bW cO) 3000 eHu=true:=by kernel_rfl
theorem rFa:aB Tryz.prog (bW cO) 3000 eFa=true:=by kernel_rfl
theorem rFb:aB Tryz.prog (bW cO) 3000 eFb=true:=by kernel_rfl
theorem rLa:aB Tryz.prog (bW cO) 3000 eLa=true:=by kernel_rfl
end
end QE
end Go.Proofs.YtfogfppdplbbgaaGreat
