/- Stage 5: the closed calls. -/
import Derived.Test.YtflblednifbleaaYCaD2
set_option linter.all false
set_option linter.unusedSimpArgs false
set_option linter.unusedVariables false
namespace Go.Proofs.Ytflblednifbleaa
namespace CE
open Go Go.Ev
set_option maxRecDepth 1000000
noncomputable section
def ed:List Ent:=[eD2]
theorem XY:Ents2OK Try.prog ed := .cons (fun _ _ _ h=>kE drawn (kV mJ) rD2 h) .nil
theorem rO2:uq Try.prog (Q3 eks ed) 3000 eO2=true:=by kernel_rfl
end
end CE
end Go.Proofs.Ytflblednifbleaa
