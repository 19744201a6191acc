/- Casks: the first truth and the last one, of all. -/
import Derived.Test.YtpfcfonplmhmiaaGreatYPrD1b
set_option linter.all false
set_option linter.unusedSimpArgs false
set_option linter.unusedVariables false
namespace Go.Proofs.YtpfcfonplmhmiaaGreat
namespace PD
open Go Go.Ev
set_option maxRecDepth 1000000
set_option maxHeartbeats 0
noncomputable section
def loG (g:Nat→Nat→Int) (i _:Nat):Int:=g i 0
def hiG (g:Nat→Nat→Int) (i _:Nat):Int:=g i 1
end
end PD
end Go.Proofs.YtpfcfonplmhmiaaGreat
