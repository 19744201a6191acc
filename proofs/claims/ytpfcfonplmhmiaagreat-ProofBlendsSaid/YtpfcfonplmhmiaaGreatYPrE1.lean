/- Casks: lists by bits, and the reference's strength of a blend, as contracts. -/
import Derived.Test.YtpfcfonplmhmiaaGreatYPrS4
import Derived.Test.YtpfcfonplmhmiaaGreatYPrL3
import Derived.Test.YtpfcfonplmhmiaaGreatYEe
set_option linter.all false
set_option linter.unusedSimpArgs false
set_option linter.unusedVariables false
namespace Go.Proofs.YtpfcfonplmhmiaaGreat
namespace BL
open Go Go.Ev
set_option maxRecDepth 1000000
set_option maxHeartbeats 0
noncomputable section
variable (lw:Nat) (fw:Nat→Nat→Int) (lm:Nat) (fm:Nat→Nat→Int) (n:Nat) (ls:Nat→Nat) (f:Nat→Nat→Nat→Int)
end
end BL
end Go.Proofs.YtpfcfonplmhmiaaGreat
