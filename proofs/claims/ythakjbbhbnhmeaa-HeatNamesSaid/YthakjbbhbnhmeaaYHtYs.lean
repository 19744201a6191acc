/- Stage 3: closed calls that write what is known, together. -/
import Derived.Test.YthakjbbhbnhmeaaYHtRsb0
import Derived.Test.YthakjbbhbnhmeaaYHtRsb1
import Derived.Test.YthakjbbhbnhmeaaYHtRsb2
set_option linter.all false
set_option linter.unusedSimpArgs false
set_option linter.unusedVariables false
namespace Go.Proofs.Ythakjbbhbnhmeaa
namespace HE
open Go Go.Ev
set_option maxRecDepth 1000000
noncomputable section
def ys:List Ent3:=[PT,QC,PZ]
theorem Sr:jo Try.prog (ents3 ys):=ja (.cons (aF drawn gX TI) <| .cons (aF drawn gX Uh) <| .cons (aF drawn gX TF) <| .nil)
end
end HE
end Go.Proofs.Ythakjbbhbnhmeaa
