/- Stage 3: the closed calls together; 'awake' as one of them, and as a contract. -/
import Derived.Test.YthakjbbhbnhmeaaGreatYHtC0
import Derived.Test.YthakjbbhbnhmeaaGreatYHtB0
import Derived.Test.YthakjbbhbnhmeaaGreatYHtB1
import Derived.Test.YthakjbbhbnhmeaaGreatYHtL2
set_option linter.all false
set_option linter.unusedSimpArgs false
set_option linter.unusedVariables false
namespace Go.Proofs.YthakjbbhbnhmeaaGreat
namespace HE
open Go Go.Ev
set_option maxRecDepth 1000000
noncomputable section
def Vu:List Ent:=[eK,eC0]
theorem QL:EntsOK Tryz.prog Vu := .cons (fun _ _ _ h=>rF drawn aG rK h) <| .cons (fun _ _ _ h=>GN drawn (um zY) TP rC0 h) <| .nil
def Ti:List Ent:=[eB0,eB1,eL2]
theorem Ou:Ents2OK Tryz.prog Ti := .cons (fun _ _ _ h=>lX drawn (um zY) TP rB0 h) <| .cons (fun _ _ _ h=>lX drawn (um zY) VB rB1 h) <| .cons (fun _ _ _ h=>lX drawn (um zY) Wq rL2 h) <| .nil
def eA:Ent:=⟨4,[],[],.bool true⟩
theorem rA:Fb Tryz.prog (SC Vu Ti) 3000 eA=true:=by kernel_rfl
theorem sA:∀ (args:List V) (H:EH) (m:Mt),dA eA.rows H eA.args args=some m→SpecCall Tryz.prog eA.g args H eA.v H:=fun _ _ _ h=>rF drawn (NR QL Ou) rA h
def valAw:Val:=fun das=>match das with | []=>some (true,.bool true) | _=>none
theorem conAw:Con Tryz.prog 4 valAw:=by
 intro das v hv
 unfold valAw at hv
 split at hv
 ·have hv:=congrArg Prod.snd (Option.some.inj hv)
  subst hv
  exact ⟨rfl,.bool true,aH 1,sA [] (aH 1) [] (by kernel_rfl),rfl⟩
 ·cases hv
end
end HE
end Go.Proofs.YthakjbbhbnhmeaaGreat
