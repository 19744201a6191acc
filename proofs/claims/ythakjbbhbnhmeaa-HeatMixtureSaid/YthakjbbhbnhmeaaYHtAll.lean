/- Stage 3: the closed calls together; 'awake' as one of them, and as a contract. -/
import Derived.Test.YthakjbbhbnhmeaaYHtC0
import Derived.Test.YthakjbbhbnhmeaaYHtB0
import Derived.Test.YthakjbbhbnhmeaaYHtB1
import Derived.Test.YthakjbbhbnhmeaaYHtL2
set_option linter.all false
set_option linter.unusedSimpArgs false
set_option linter.unusedVariables false
namespace Go.Proofs.Ythakjbbhbnhmeaa
namespace HE
open Go Go.Ev
set_option maxRecDepth 1000000
noncomputable section
def XT:List Ent:=[eK,eC0]
theorem Tu:EntsOK Try.prog XT := .cons (fun _ _ _ h=>sH drawn bu rK h) <| .cons (fun _ _ _ h=>Gn drawn (uz BA) Uf rC0 h) <| .nil
def TJ:List Ent:=[eB0,eB1,eL2]
theorem PT:Ents2OK Try.prog TJ := .cons (fun _ _ _ h=>lV drawn (uz BA) Uf rB0 h) <| .cons (fun _ _ _ h=>lV drawn (uz BA) Xm rB1 h) <| .cons (fun _ _ _ h=>lV drawn (uz BA) XR rL2 h) <| .nil
def eA:Ent:=⟨17,[],[],.bool true⟩
theorem rA:Iq Try.prog (TV XT TJ) 3000 eA=true:=by kernel_rfl
theorem sA:∀ (args:List V) (H:EH) (m:Mt),dM eA.rows H eA.args args=some m→SpecCall Try.prog eA.g args H eA.v H:=fun _ _ _ h=>sH drawn (MZ Tu PT) rA h
def valAw:Val:=fun das=>match das with | []=>some (true,.bool true) | _=>none
theorem conAw:Con Try.prog 17 valAw:=by
 intro das v hv
 unfold valAw at hv
 split at hv
 ·have hv:=congrArg Prod.snd (Option.some.inj hv)
  subst hv
  exact ⟨rfl,.bool true,aU 1,sA [] (aU 1) [] (by kernel_rfl),rfl⟩
 ·cases hv
end
end HE
end Go.Proofs.Ythakjbbhbnhmeaa
