/- Stage 6: the closed calls of WortNames together. -/
import Derived.Test.YtmcdjginlikbcaaYWoAw
import Derived.Test.YtmcdjginlikbcaaYWoS
import Derived.Test.YtmcdjginlikbcaaYWoL0
set_option linter.all false
set_option linter.unusedSimpArgs false
set_option linter.unusedVariables false
namespace Go.Proofs.Ytmcdjginlikbcaa
namespace WE
open Go Go.Ev WO
set_option maxRecDepth 1000000
noncomputable section
def entsA : List Ent := [eA, eK0, eK1, eS, eL0]
theorem entsA_ok : EntsOK Try.prog entsA := .cons sA <| .cons (fun _ _ _ h => ent_sound drawn noExt_ok rK0 h) <| .cons (fun _ _ _ h => ent_sound drawn noExt_ok rK1 h) <| .cons (fun _ _ _ h => ent_sound drawn XS_ok rS h) <| .cons (fun _ _ _ h => ent_sound drawn XK_ok rL0 h) .nil
def XN : Ext := orX (entX2 entsA ents2) XC
theorem XN_ok : ExtOK Try.prog XN := orX_ok (entX2_ok entsA_ok ents2_ok) XC_ok
end
end WE
end Go.Proofs.Ytmcdjginlikbcaa
