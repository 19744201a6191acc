/- Stage 11: the closed calls together. -/
import Derived.Test.YtfogfppdplbbgaaGreatYDpM
import Derived.Test.YtfogfppdplbbgaaGreatYDpB
import Derived.Test.YtfogfppdplbbgaaGreatYDpL
import Derived.Test.YtfogfppdplbbgaaGreatYDpG
import Derived.Test.YtfogfppdplbbgaaGreatYDpC
import Derived.Test.YtfogfppdplbbgaaGreatYDpO
set_option linter.all false
set_option linter.unusedSimpArgs false
set_option linter.unusedVariables false
namespace Go.Proofs.YtfogfppdplbbgaaGreat
namespace QE
open Go Go.Ev
set_option maxRecDepth 1000000
noncomputable section
def Di:List Ent:=[eM0,eM1,eM2,eM3,eLa,eLb,eLt,ePa,ePb,eGa,eGb,eGt,eV0,eV1,eV2,eB3,eB2,eFa,eFb,eHa,eHt,eHu,eOa,eOb,eOc]
theorem uI:Ents2OK Tryz.prog Di := .cons (fun _ _ _ h=>aj drawn (ax aC) rM0 h) <| .cons (fun _ _ _ h=>aj drawn (ax aC) rM1 h) <| .cons (fun _ _ _ h=>aj drawn (ax aC) rM2 h) <| .cons (fun _ _ _ h=>aj drawn (ax aC) rM3 h) <| .cons (fun _ _ _ h=>aj drawn (ax aC) rLa h) <| .cons (fun _ _ _ h=>aj drawn (ax aC) rLb h) <| .cons (fun _ _ _ h=>aj drawn (ax aC) rLt h) <| .cons (fun _ _ _ h=>aj drawn (ax aC) rPa h) <| .cons (fun _ _ _ h=>aj drawn (ax aC) rPb h) <| .cons (fun _ _ _ h=>aj drawn (ax aC) rGa h) <| .cons (fun _ _ _ h=>aj drawn (ax aC) rGb h) <| .cons (fun _ _ _ h=>aj drawn (ax aC) rGt h) <| .cons (fun _ _ _ h=>aj drawn (ax aC) rV0 h) <| .cons (fun _ _ _ h=>aj drawn (ax aC) rV1 h) <| .cons (fun _ _ _ h=>aj drawn (ax aC) rV2 h) <| .cons (fun _ _ _ h=>aj drawn (ax aC) rB3 h) <| .cons (fun _ _ _ h=>aj drawn (ax aC) rB2 h) <| .cons (fun _ _ _ h=>aj drawn (ax aC) rFa h) <| .cons (fun _ _ _ h=>aj drawn (ax aC) rFb h) <| .cons (fun _ _ _ h=>aj drawn (ax aC) rHa h) <| .cons (fun _ _ _ h=>aj drawn (ax aC) rHt h) <| .cons (fun _ _ _ h=>aj drawn (ax aC) rHu h) <| .cons (fun _ _ _ h=>aj drawn (ax aC) rOa h) <| .cons (fun _ _ _ h=>aj drawn (ax aC) rOb h) <| .cons (fun _ _ _ h=>aj drawn (ax aC) rOc h) <| .nil
end
end QE
end Go.Proofs.YtfogfppdplbbgaaGreat
