/- Stage 8: the closed calls together; 'awake' as one of them. -/
import Derived.Test.YtajlhdcpkfmhkaaYSaF2
import Derived.Test.YtajlhdcpkfmhkaaYSaF3
import Derived.Test.YtajlhdcpkfmhkaaYSaX2
import Derived.Test.YtajlhdcpkfmhkaaYSaO3
import Derived.Test.YtajlhdcpkfmhkaaYSaA3
import Derived.Test.YtajlhdcpkfmhkaaYSaH1
import Derived.Test.YtajlhdcpkfmhkaaYSaH4
import Derived.Test.YtajlhdcpkfmhkaaYSaO0
import Derived.Test.YtajlhdcpkfmhkaaYSaO1
import Derived.Test.YtajlhdcpkfmhkaaYSaV2
import Derived.Test.YtajlhdcpkfmhkaaYSaA2
import Derived.Test.YtajlhdcpkfmhkaaYSaL2
import Derived.Test.YtajlhdcpkfmhkaaYSaX3
set_option linter.all false
set_option linter.unusedSimpArgs false
set_option linter.unusedVariables false
namespace Go.Proofs.Ytajlhdcpkfmhkaa
namespace SE
open Go Go.Ev
set_option maxRecDepth 1000000
noncomputable section
def ents : List Ent := [eAc, eK2, eK3, eF2, eF3, eX2, eO3, eA3]
theorem ents_ok : EntsOK Try.prog ents := .cons (fun _ _ _ h => ent_sound drawn noExt_ok rAc h) <| .cons (fun _ _ _ h => ent_sound drawn noExt_ok rK2 h) <| .cons (fun _ _ _ h => ent_sound drawn noExt_ok rK3 h) <| .cons (fun _ _ _ h => ent_sound drawn XF_ok rF2 h) <| .cons (fun _ _ _ h => ent_sound drawn XF_ok rF3 h) <| .cons (fun _ _ _ h => ent_sound drawn (entX_ok eks_ok) rX2 h) <| .cons (fun _ _ _ h => ent_sound drawn (entX_ok eks_ok) rO3 h) <| .cons (fun _ _ _ h => ent_sound drawn (entX_ok eks_ok) rA3 h) <| .nil
def ents2 : List Ent := [eH1, eH4, eO0, eO1, eV2, eA2, eL2, eX3]
theorem ents2_ok : Ents2OK Try.prog ents2 := .cons (fun _ _ _ h => entM2_sound drawn (entX_ok eks_ok) rH1 h) <| .cons (fun _ _ _ h => entM2_sound drawn (entX_ok eks_ok) rH4 h) <| .cons (fun _ _ _ h => entM2_sound drawn (entX_ok eks_ok) rO0 h) <| .cons (fun _ _ _ h => entM2_sound drawn (entX_ok eks_ok) rO1 h) <| .cons (fun _ _ _ h => entM2_sound drawn (entX_ok eks_ok) rV2 h) <| .cons (fun _ _ _ h => entM2_sound drawn (entX_ok eks_ok) rA2 h) <| .cons (fun _ _ _ h => entM2_sound drawn (entX_ok eks_ok) rL2 h) <| .cons (fun _ _ _ h => entM2_sound drawn XF_ok rX3 h) <| .nil
def eA : Ent := ⟨16, [], [], .bool true⟩
theorem rA : entRun Try.prog (entX2 ents ents2) 3000 eA = true := by kernel_rfl
def entsA : List Ent := eA :: ents
theorem entsA_ok : EntsOK Try.prog entsA := .cons (fun _ _ _ h => ent_sound drawn (entX2_ok ents_ok ents2_ok) rA h) ents_ok
end
end SE
end Go.Proofs.Ytajlhdcpkfmhkaa
