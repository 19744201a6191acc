/- Casks: contracts: how many truths there are, each of them, and the bounds of the duty by all of them. -/
import Derived.Test.YtpfcfonplmhmiaaGreatYPrL2b
import Derived.Test.YtpfcfonplmhmiaaGreatYEe
set_option linter.all false
set_option linter.unusedSimpArgs false
set_option linter.unusedVariables false
namespace Go.Proofs.YtpfcfonplmhmiaaGreat
namespace PD
open Go Go.Ev
set_option maxRecDepth 1000000
set_option maxHeartbeats 0
noncomputable section
def ltM:LT:=⟨[0,1,5,6],[5],[],2⟩
def sM (m:Nat) (g:Nat→Nat→Int) (most c:Int) (i:Nat):LS:=⟨[.fz true 0 (ae .i64 g) m 2,.int .i64 most,.int .i64 c,.int .i64 i],[]⟩
theorem eM (m:Nat) (g:Nat→Nat→Int) (most:Int):VC (ng Tryz.prog az 300 21 [1,1,0,1,0] [.one (.sl 2 m g),.one (.i .i64 most)] (aW 2) ltM 33 60 (sM m g most 1 0)) .nil:=ai ((True∧(((((V.fz true 0 (ae .i64 g) m 2):V)=(V.fz true 0 (ae .i64 g) m 2))∧(((most:Int)=most)∧((((1):Int)=1)∧((((0):Int)=0)∧True))))∧True)))
end
end PD
end Go.Proofs.YtpfcfonplmhmiaaGreat
