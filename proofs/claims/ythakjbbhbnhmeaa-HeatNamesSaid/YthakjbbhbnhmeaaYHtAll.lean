/- Stage 3: the closed calls together; 'awake' as one of them, and as a contract. -/
import Derived.Test.YthakjbbhbnhmeaaYHtC0
import Derived.Test.YthakjbbhbnhmeaaYHtB0
import Derived.Test.YthakjbbhbnhmeaaYHtB1
import Derived.Test.YthakjbbhbnhmeaaYHtL2
set_option linter.all false
set_option linter.unusedSimpArgs false
set_option linter.unusedVariables false
namespace Go.Proofs.Ythakjbbhbnhmeaa
namespace HE
open Go Go.Ev
set_option maxRecDepth 1000000
noncomputable section
def SC:List Ent:=[eK,eC0]
theorem Gn:EntsOK Try.prog SC := .cons (fun _ _ _ h=>pF drawn kG rK h) <| .cons (fun _ _ _ h=>mW drawn (lL ql) PP rC0 h) <| .nil
def NH:List Ent:=[eB0,eB1,eL2]
theorem AP:Ents2OK Try.prog NH := .cons (fun _ _ _ h=>jT drawn (lL ql) PP rB0 h) <| .cons (fun _ _ _ h=>jT drawn (lL ql) Tv rB1 h) <| .cons (fun _ _ _ h=>jT drawn (lL ql) Sr rL2 h) <| .nil
def eA:Ent:=⟨17,[],[],.bool true⟩
theorem rA:FC Try.prog (Ko SC NH) 3000 eA=true:=by kernel_rfl
end
end HE
end Go.Proofs.Ythakjbbhbnhmeaa
