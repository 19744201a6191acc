/- Stage 5: the closed calls together; 'awake' as one of them. -/
import Derived.Test.YtflblednifbleaaYCaO2
import Derived.Test.YtflblednifbleaaYCaB2
import Derived.Test.YtflblednifbleaaYCaL3
import Derived.Test.YtflblednifbleaaYCaF3
import Derived.Test.YtflblednifbleaaYCaF2
import Derived.Test.YtflblednifbleaaYCaL2
import Derived.Test.YtflblednifbleaaYCaB3
set_option linter.all false
set_option linter.unusedSimpArgs false
set_option linter.unusedVariables false
namespace Go.Proofs.Ytflblednifbleaa
namespace CE
open Go Go.Ev
set_option maxRecDepth 1000000
noncomputable section
def Xw:List Ent:=[eK2,eK3,eF3,eF2,eL2,eB3]
theorem TJ:EntsOK Try.prog Xw :=
 .cons (fun _ _ _ h=>gm drawn aj rK2 h) <| .cons (fun _ _ _ h=>gm drawn aj rK3 h) <| .cons (fun _ _ _ h=>gm drawn (kV mJ) rF3 h) <| .cons (fun _ _ _ h=>gm drawn (kV mJ) rF2 h) <|
 .cons (fun _ _ _ h=>gm drawn (kV mJ) rL2 h) <| .cons (fun _ _ _ h=>gm drawn (kV mJ) rB3 h) .nil
def U2:List Ent:=[eB2,eD2,eO2,eL3]
theorem Ov:Ents2OK Try.prog U2 :=
 .cons (fun _ _ _ h=>kE drawn (kV mJ) rB2 h) <| .cons (fun _ _ _ h=>kE drawn (kV mJ) rD2 h) <| .cons (fun _ _ _ h=>kE drawn (G5 mJ XY) rO2 h) <| .cons (fun _ _ _ h=>kE drawn (kV mJ) rL3 h) .nil
def eA:Ent:=⟨6,[],[],.bool true⟩
theorem rA:pz Try.prog (Q3 Xw U2) 3000 eA=true:=by kernel_rfl
end
end CE
end Go.Proofs.Ytflblednifbleaa
