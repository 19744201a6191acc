/- Stage 3: closed calls that write what is known, together. -/
import Derived.Test.YthakjbbhbnhmeaaGreatYHtVba0
import Derived.Test.YthakjbbhbnhmeaaGreatYHtVba1
import Derived.Test.YthakjbbhbnhmeaaGreatYHtVba2
set_option linter.all false
set_option linter.unusedSimpArgs false
set_option linter.unusedVariables false
namespace Go.Proofs.YthakjbbhbnhmeaaGreat
namespace HE
open Go Go.Ev
set_option maxRecDepth 1000000
noncomputable section
def ya:List Ent3:=[SL,SS,Td]
theorem VB:oM Tryz.prog (ents3 ya):=oV (.cons (bK drawn pK VM) <| .cons (bK drawn pK Vk) <| .cons (bK drawn pK WN) <| .nil)
end
end HE
end Go.Proofs.YthakjbbhbnhmeaaGreat
