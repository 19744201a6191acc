/- Stage 5: the closed calls. -/
import Derived.Test.YtbfifocbniplmaaYCaD2
set_option linter.all false
set_option linter.unusedSimpArgs false
set_option linter.unusedVariables false
namespace Go.Proofs.Ytbfifocbniplmaa
namespace CE
open Go Go.Ev
set_option maxRecDepth 1000000
noncomputable section
def ed : List Ent := [eD2]
theorem ed_ok : Ents2OK Try.prog ed := .cons (fun _ _ _ h => ent2_sound drawn (entX_ok eks_ok) rD2 h) .nil
theorem rO2 : entRun2 Try.prog (entX2 eks ed) 3000 eO2 = true := by kernel_rfl
end
end CE
end Go.Proofs.Ytbfifocbniplmaa
