/- Stage 3: a closed call. -/
import Derived.Test.YthakjbbhbnhmeaaYHtYc
set_option linter.all false
set_option linter.unusedSimpArgs false
set_option linter.unusedVariables false
namespace Go.Proofs.Ythakjbbhbnhmeaa
namespace HE
open Go Go.Ev
set_option maxRecDepth 1000000
noncomputable section
def eBc:Ent:=⟨7,[ce,l1],ceR [nS [0,0,0,99]],.tup [.nilSlice,vi 11]⟩
theorem rBc:rJ Try.prog (entX eks) (ents3 yc) 3000 eBc=true:=by kernel_rfl
end
end HE
end Go.Proofs.Ythakjbbhbnhmeaa
