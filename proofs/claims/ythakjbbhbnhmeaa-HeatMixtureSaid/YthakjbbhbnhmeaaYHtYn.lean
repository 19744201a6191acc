/- Stage 3: closed calls that write what is known, together. -/
import Derived.Test.YthakjbbhbnhmeaaYHtVbn0
import Derived.Test.YthakjbbhbnhmeaaYHtVbn1
import Derived.Test.YthakjbbhbnhmeaaYHtVbn2
set_option linter.all false
set_option linter.unusedSimpArgs false
set_option linter.unusedVariables false
namespace Go.Proofs.Ythakjbbhbnhmeaa
namespace HE
open Go Go.Ev
set_option maxRecDepth 1000000
noncomputable section
def yn:List Ent3:=[Ug,UF,Uj]
theorem Uf:oM Try.prog (ents3 yn):=qI (.cons (bZ drawn pY V6) <| .cons (bZ drawn pY XD) <| .cons (bZ drawn pY Wl) <| .nil)
end
end HE
end Go.Proofs.Ythakjbbhbnhmeaa
