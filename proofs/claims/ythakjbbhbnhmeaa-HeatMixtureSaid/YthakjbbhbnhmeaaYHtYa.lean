/- Stage 3: closed calls that write what is known, together. -/
import Derived.Test.YthakjbbhbnhmeaaYHtVba0
import Derived.Test.YthakjbbhbnhmeaaYHtVba1
import Derived.Test.YthakjbbhbnhmeaaYHtVba2
set_option linter.all false
set_option linter.unusedSimpArgs false
set_option linter.unusedVariables false
namespace Go.Proofs.Ythakjbbhbnhmeaa
namespace HE
open Go Go.Ev
set_option maxRecDepth 1000000
noncomputable section
def ya:List Ent3:=[TN,TM,Ub]
theorem Xm:oM Try.prog (ents3 ya):=qI (.cons (bZ drawn pY XN) <| .cons (bZ drawn pY Wj) <| .cons (bZ drawn pY XK) <| .nil)
end
end HE
end Go.Proofs.Ythakjbbhbnhmeaa
