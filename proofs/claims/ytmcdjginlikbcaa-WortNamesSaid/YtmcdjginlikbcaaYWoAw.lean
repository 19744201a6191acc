/- Stage 6: 'awake', as a closed call and as a contract. -/
import Derived.Test.YtmcdjginlikbcaaYWoF
import Derived.Test.YtmcdjginlikbcaaYWoB
import Derived.Test.YtmcdjginlikbcaaYWoL
set_option linter.all false
set_option linter.unusedSimpArgs false
set_option linter.unusedVariables false
namespace Go.Proofs.Ytmcdjginlikbcaa
namespace WE
open Go Go.Ev WO
set_option maxRecDepth 1000000
noncomputable section
def ents2 : List Ent := [eF, eB, eL]
theorem ents2_ok : Ents2OK Try.prog ents2 := .cons (fun _ _ _ h => ent2_sound drawn XK_ok rF h) <| .cons (fun _ _ _ h => entM2_sound drawn XK_ok rB h) <| .cons (fun _ _ _ h => ent2_sound drawn XK_ok rL h) .nil
def XA : Ext := orX (entX2 eks ents2) XC
theorem XA_ok : ExtOK Try.prog XA := orX_ok (entX2_ok eks_ok ents2_ok) XC_ok
def eA : Ent := ⟨18, [], [], .bool true⟩
theorem rA : entRun Try.prog XA 3000 eA = true := by kernel_rfl
theorem sA : ∀ (args : List V) (H : EH) (m : Mt), mtAll eA.rows H eA.args args = some m → SpecCall Try.prog eA.g args H eA.v H := fun _ _ _ h => ent_sound drawn XA_ok rA h
end
end WE
end Go.Proofs.Ytmcdjginlikbcaa
