/- Stage 11: awake as a closed call. -/
import Derived.Test.YtfogfppdplbbgaaGreatYDpAll
set_option linter.all false
set_option linter.unusedSimpArgs false
set_option linter.unusedVariables false
namespace Go.Proofs.YtfogfppdplbbgaaGreat
namespace QE
open Go Go.Ev
set_option maxRecDepth 1000000
noncomputable section
def eA:Ent:=⟨19,[],[],.bool true⟩
theorem rA:aB Tryz.prog (Eu cO Di) 3000 eA=true:=by kernel_rfl
def GN:List Ent:=eA::Di
theorem Fg:Ents2OK Tryz.prog GN := .cons (fun _ _ _ h=>aj drawn (wR aC uI) rA h) uI
end
end QE
end Go.Proofs.YtfogfppdplbbgaaGreat
