/- Stage 5: the closed calls together; 'awake' as one of them. -/
import Derived.Test.YtbfifocbniplmaaYCaO2
import Derived.Test.YtbfifocbniplmaaYCaB2
import Derived.Test.YtbfifocbniplmaaYCaL3
import Derived.Test.YtbfifocbniplmaaYCaF3
import Derived.Test.YtbfifocbniplmaaYCaF2
import Derived.Test.YtbfifocbniplmaaYCaL2
import Derived.Test.YtbfifocbniplmaaYCaB3
set_option linter.all false
set_option linter.unusedSimpArgs false
set_option linter.unusedVariables false
namespace Go.Proofs.Ytbfifocbniplmaa
namespace CE
open Go Go.Ev
set_option maxRecDepth 1000000
noncomputable section
def ents : List Ent := [eK2, eK3, eF3, eF2, eL2, eB3]
theorem ents_ok : EntsOK Try.prog ents :=
  .cons (fun _ _ _ h => ent_sound drawn noExt_ok rK2 h) <| .cons (fun _ _ _ h => ent_sound drawn noExt_ok rK3 h) <| .cons (fun _ _ _ h => ent_sound drawn (entX_ok eks_ok) rF3 h) <| .cons (fun _ _ _ h => ent_sound drawn (entX_ok eks_ok) rF2 h) <|
  .cons (fun _ _ _ h => ent_sound drawn (entX_ok eks_ok) rL2 h) <| .cons (fun _ _ _ h => ent_sound drawn (entX_ok eks_ok) rB3 h) .nil
def ents2 : List Ent := [eB2, eD2, eO2, eL3]
theorem ents2_ok : Ents2OK Try.prog ents2 :=
  .cons (fun _ _ _ h => ent2_sound drawn (entX_ok eks_ok) rB2 h) <| .cons (fun _ _ _ h => ent2_sound drawn (entX_ok eks_ok) rD2 h) <| .cons (fun _ _ _ h => ent2_sound drawn (entX2_ok eks_ok ed_ok) rO2 h) <| .cons (fun _ _ _ h => ent2_sound drawn (entX_ok eks_ok) rL3 h) .nil
def eA : Ent := ⟨19, [], [], .bool true⟩
theorem rA : entRun Try.prog (entX2 ents ents2) 3000 eA = true := by kernel_rfl
def entsA : List Ent := eA :: ents
theorem entsA_ok : EntsOK Try.prog entsA := .cons (fun _ _ _ h => ent_sound drawn (entX2_ok ents_ok ents2_ok) rA h) ents_ok
end
end CE
end Go.Proofs.Ytbfifocbniplmaa
