/- Stage 3: closed calls that write what is known, together. -/
import Derived.Test.YthakjbbhbnhmeaaYHtVbc0
import Derived.Test.YthakjbbhbnhmeaaYHtVbc1
import Derived.Test.YthakjbbhbnhmeaaYHtVbc2
set_option linter.all false
set_option linter.unusedSimpArgs false
set_option linter.unusedVariables false
namespace Go.Proofs.Ythakjbbhbnhmeaa
namespace HE
open Go Go.Ev
set_option maxRecDepth 1000000
noncomputable section
def yc:List Ent3:=[Qe,Qp,Qi]
theorem SL:jo Try.prog (ents3 yc):=ja (.cons (aF drawn gX Ub) <| .cons (aF drawn gX SA) <| .cons (aF drawn gX TM) <| .nil)
end
end HE
end Go.Proofs.Ythakjbbhbnhmeaa
