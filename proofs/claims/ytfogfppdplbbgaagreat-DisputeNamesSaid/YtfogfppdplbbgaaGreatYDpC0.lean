/- Stage 11: what is closed, together. -/
import Derived.Test.YtfogfppdplbbgaaGreatYDpCa
import Derived.Test.YtfogfppdplbbgaaGreatYDpCb
import Derived.Test.YtfogfppdplbbgaaGreatYDpCc
set_option linter.all false
set_option linter.unusedSimpArgs false
set_option linter.unusedVariables false
namespace Go.Proofs.YtfogfppdplbbgaaGreat
namespace QE
open Go Go.Ev
set_option maxRecDepth 1000000
noncomputable section
def cO:List Ent:=eCn::eCt::eCa::eCb::eCc::Jf::Jv::I8::GU::eks
theorem aC:EntsOK Tryz.prog cO := .cons (fun _ _ _ h=>aF drawn aP rCn h) <| .cons (fun _ _ _ h=>aF drawn aP rCt h) <| .cons (fun _ _ _ h=>aF drawn aP rCa h) <| .cons (fun _ _ _ h=>aF drawn aP rCb h) <| .cons (fun _ _ _ h=>aF drawn aP rCc h) <| .cons (fun _ _ _ h=>aF drawn aP JR h) <| .cons (fun _ _ _ h=>aF drawn aP JI h) <| .cons (fun _ _ _ h=>aF drawn aP JW h) <| .cons (fun _ _ _ h=>aF drawn aP IX h)<|Ia
end
end QE
end Go.Proofs.YtfogfppdplbbgaaGreat
