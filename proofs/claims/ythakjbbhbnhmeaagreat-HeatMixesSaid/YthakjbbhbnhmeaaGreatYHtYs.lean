/- Stage 3: closed calls that write what is known, together. -/
import Derived.Test.YthakjbbhbnhmeaaGreatYHtRsb0
import Derived.Test.YthakjbbhbnhmeaaGreatYHtRsb1
import Derived.Test.YthakjbbhbnhmeaaGreatYHtRsb2
set_option linter.all false
set_option linter.unusedSimpArgs false
set_option linter.unusedVariables false
namespace Go.Proofs.YthakjbbhbnhmeaaGreat
namespace HE
open Go Go.Ev
set_option maxRecDepth 1000000
noncomputable section
def ys:List Ent3:=[TF,Ub,Tt]
theorem Wq:oM Tryz.prog (ents3 ys):=oV (.cons (bK drawn pK We) <| .cons (bK drawn pK VZ) <| .cons (bK drawn pK V8) <| .nil)
end
end HE
end Go.Proofs.YthakjbbhbnhmeaaGreat
