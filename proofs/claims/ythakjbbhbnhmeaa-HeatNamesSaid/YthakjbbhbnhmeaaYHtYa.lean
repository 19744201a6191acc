/- Stage 3: closed calls that write what is known, together. -/
import Derived.Test.YthakjbbhbnhmeaaYHtVba0
import Derived.Test.YthakjbbhbnhmeaaYHtVba1
import Derived.Test.YthakjbbhbnhmeaaYHtVba2
set_option linter.all false
set_option linter.unusedSimpArgs false
set_option linter.unusedVariables false
namespace Go.Proofs.Ythakjbbhbnhmeaa
namespace HE
open Go Go.Ev
set_option maxRecDepth 1000000
noncomputable section
def ya:List Ent3:=[Qz,Qy,Qs]
theorem Tv:jo Try.prog (ents3 ya):=ja (.cons (aF drawn gX SE) <| .cons (aF drawn gX Sv) <| .cons (aF drawn gX SB) <| .nil)
end
end HE
end Go.Proofs.Ythakjbbhbnhmeaa
