/- Stage 11: the closed calls. -/
import Derived.Test.YtfogfppdplbbgaaGreatYDpC0
set_option linter.all false
set_option linter.unusedSimpArgs false
set_option linter.unusedVariables false
namespace Go.Proofs.YtfogfppdplbbgaaGreat
namespace QE
open Go Go.Ev
set_option maxRecDepth 1000000
noncomputable section
theorem rM0:aB Tryz.prog (bW cO) 3000 eM0=true:=by kernel_rfl
theorem rM1:aB Tryz.prog (bW cO) 3000 eM1=true:=by kernel_rfl
theorem rM2:aB Tryz.prog (bW cO) 3000 eM2=true:=by kernel_rfl
theorem rM3:aB Tryz.prog (bW cO) 3000 eM3=true:=by kernel_rfl
theorem rOc:aB Tryz.prog (bW cO) 3000 eOc=true:=by kernel_rfl
theorem rHt:aB Tryz.prog (bW cO) 3000 eHt=true:=by kernel_rfl
theorem rV0:aB Tryz.prog (bW cO) 3000 eV0=true:=by kernel_rfl
theorem rV1:aB Tryz.prog (bW cO) 3000 eV1=true:=by kernel_rfl
theorem rV2:aB Tryz.prog (bW cO) 3000 eV2=true:=by kernel_rfl
end
end QE
end Go.Proofs.YtfogfppdplbbgaaGreat
