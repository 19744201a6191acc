/- Stage 10: the closed calls together; 'awake' as one of them. -/
import Derived.Test.YtifhcelhancnmaaYDuP
import Derived.Test.YtifhcelhancnmaaYDuB
import Derived.Test.YtifhcelhancnmaaYDuC
import Derived.Test.YtifhcelhancnmaaYDuT
import Derived.Test.YtifhcelhancnmaaYDuS
import Derived.Test.YtifhcelhancnmaaYDuX
import Derived.Test.YtifhcelhancnmaaYDuL
import Derived.Test.YtifhcelhancnmaaYDuM
import Derived.Test.YtifhcelhancnmaaYDuV
import Derived.Test.YtifhcelhancnmaaYDuW
set_option linter.all false
set_option linter.unusedSimpArgs false
set_option linter.unusedVariables false
namespace Go.Proofs.Ytifhcelhancnmaa
namespace UE
open Go Go.Ev
set_option maxRecDepth 1000000
noncomputable section
def Gh:List Ent:=[eP0,eP8,eB0,eB8,eB9,eT0,eTl,eS9,eS0,eSp,eL0,eL9,eVn,eV3,eV4,eV2,eVd]
theorem yH:Ents2OK Try.prog Gh := .cons (fun _ _ _ h=>bG drawn (aO aX) rP0 h) <| .cons (fun _ _ _ h=>bG drawn (aO aX) rP8 h) <| .cons (fun _ _ _ h=>aH drawn (aO aX) rB0 h) <| .cons (fun _ _ _ h=>aH drawn (aO aX) rB8 h) <| .cons (fun _ _ _ h=>bG drawn (aO aX) rB9 h) <| .cons (fun _ _ _ h=>aH drawn (aO aX) rT0 h) <| .cons (fun _ _ _ h=>bG drawn (aO aX) rTl h) <| .cons (fun _ _ _ h=>bG drawn (aO aX) rS9 h) <| .cons (fun _ _ _ h=>aH drawn (aO aX) rS0 h) <| .cons (fun _ _ _ h=>aH drawn (aO aX) rSp h) <| .cons (fun _ _ _ h=>bG drawn (aO aX) rL0 h) <| .cons (fun _ _ _ h=>bG drawn (aO aX) rL9 h) <| .cons (fun _ _ _ h=>aH drawn (aO aX) rVn h) <| .cons (fun _ _ _ h=>aH drawn (aO aX) rV3 h) <| .cons (fun _ _ _ h=>aH drawn (aO aX) rV4 h) <| .cons (fun _ _ _ h=>aH drawn (aO aX) rV2 h) <| .cons (fun _ _ _ h=>aH drawn (aO aX) rVd h) <| .nil
def eA:Ent:=⟨13,[],[],.bool true⟩
theorem rA:aZ Try.prog (Gq uw Gh) 36 3000 eA=true:=by kernel_rfl
def Jq:List Ent:=eA::Gh
theorem FC:Ents2OK Try.prog Jq := .cons (fun _ _ _ h=>aH drawn (yJ aX yH) rA h) yH
end
end UE
end Go.Proofs.Ytifhcelhancnmaa
