/- Stage 3: closed calls that write what is known, together. -/
import Derived.Test.YthakjbbhbnhmeaaYHtRsb0
import Derived.Test.YthakjbbhbnhmeaaYHtRsb1
import Derived.Test.YthakjbbhbnhmeaaYHtRsb2
set_option linter.all false
set_option linter.unusedSimpArgs false
set_option linter.unusedVariables false
namespace Go.Proofs.Ythakjbbhbnhmeaa
namespace HE
open Go Go.Ev
set_option maxRecDepth 1000000
noncomputable section
def ys:List Ent3:=[TY,Uu,Ut]
theorem XR:oM Try.prog (ents3 ys):=qI (.cons (bZ drawn pY WN) <| .cons (bZ drawn pY YO) <| .cons (bZ drawn pY X5) <| .nil)
end
end HE
end Go.Proofs.Ythakjbbhbnhmeaa
