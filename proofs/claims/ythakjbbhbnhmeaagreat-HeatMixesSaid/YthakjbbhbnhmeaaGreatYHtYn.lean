/- Stage 3: closed calls that write what is known, together. -/
import Derived.Test.YthakjbbhbnhmeaaGreatYHtVbn0
import Derived.Test.YthakjbbhbnhmeaaGreatYHtVbn1
import Derived.Test.YthakjbbhbnhmeaaGreatYHtVbn2
set_option linter.all false
set_option linter.unusedSimpArgs false
set_option linter.unusedVariables false
namespace Go.Proofs.YthakjbbhbnhmeaaGreat
namespace HE
open Go Go.Ev
set_option maxRecDepth 1000000
noncomputable section
def yn:List Ent3:=[TL,TM,TT]
theorem TP:oM Tryz.prog (ents3 yn):=oV (.cons (bK drawn pK Wp) <| .cons (bK drawn pK V6) <| .cons (bK drawn pK WB) <| .nil)
end
end HE
end Go.Proofs.YthakjbbhbnhmeaaGreat
