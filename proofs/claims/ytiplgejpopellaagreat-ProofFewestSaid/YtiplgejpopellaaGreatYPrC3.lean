/- Casks: contracts: Strengths, Tenths, Duty, Duties. -/
import Derived.Test.YtiplgejpopellaaGreatYPrC2
set_option linter.all false
set_option linter.unusedSimpArgs false
set_option linter.unusedVariables false
namespace Go.Proofs.YtiplgejpopellaaGreat
open Go Go.Ev
set_option maxRecDepth 1000000
set_option maxHeartbeats 0
noncomputable section
variable (A:Nat) (B:Nat→Nat→Int) (I:Nat) (J:Nat→Nat→Int) (n:Nat) (M:Nat→Nat) (f:Nat→Nat→Nat→Int)
def XHt:Ext:=jO [(48,cf abk)] false
theorem ht1 (r:Int) (O:Nat) (E:Nat→Nat→Int) (l0 l1 l2 l3 l4 l5 h0 h1 h2 h3 h4 h5:Int) (k:Nat) (t:Nat→Nat→Int) (h:¬ k=O):VC (dh Tryz.prog XHt 600 46 (enc [.st [.sl 1 A B,.sl 1 I J,.rr 1 n M f,.i .i64 r,.sl 5 O E,.i .i64 l0,.i .i64 l1,.i .i64 l2,.i .i64 l3,.i .i64 l4,.i .i64 l5,.i .i64 h0,.i .i64 h1,.i .i64 h2,.i .i64 h3,.i .i64 h4,.i .i64 h5],.one (.sl 1 k t)] 0) 5 (fun v=>dB v (.bool false))) (.go 5 .nil):=ai (((not (bY (k:Int) (O:Int)))=true∧(false=false)))
end
end Go.Proofs.YtiplgejpopellaaGreat
