/- Stage 3: closed calls that write what is known, together. -/
import Derived.Test.YthakjbbhbnhmeaaYHtRsn0
import Derived.Test.YthakjbbhbnhmeaaYHtRsn1
import Derived.Test.YthakjbbhbnhmeaaYHtRsn2
set_option linter.all false
set_option linter.unusedSimpArgs false
set_option linter.unusedVariables false
namespace Go.Proofs.Ythakjbbhbnhmeaa
namespace HE
open Go Go.Ev
set_option maxRecDepth 1000000
noncomputable section
def yt:List Ent3:=[Qu,PI,PU]
theorem SS:jo Try.prog (ents3 yt):=ja (.cons (aF drawn gX SQ) <| .cons (aF drawn gX TT) <| .cons (aF drawn gX Ud) <| .nil)
end
end HE
end Go.Proofs.Ythakjbbhbnhmeaa
