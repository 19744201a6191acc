/- Stage 3: the closed calls of HeatNames together. -/
import Derived.Test.YthakjbbhbnhmeaaYHtAll
import Derived.Test.YthakjbbhbnhmeaaYHtL0
import Derived.Test.YthakjbbhbnhmeaaYHtBc
set_option linter.all false
set_option linter.unusedSimpArgs false
set_option linter.unusedVariables false
namespace Go.Proofs.Ythakjbbhbnhmeaa
namespace HE
open Go Go.Ev
set_option maxRecDepth 1000000
noncomputable section
def Qa:List Ent:=[eA,eL0,eBc,eK,eC0]
theorem MH:EntsOK Try.prog Qa := .cons (fun _ _ _ h=>pF drawn (Ak Gn AP) rA h) <| .cons (fun _ _ _ h=>mW drawn (lL ql) SS rL0 h) <| .cons (fun _ _ _ h=>mW drawn (lL ql) SL rBc h) Gn
end
end HE
end Go.Proofs.Ythakjbbhbnhmeaa
