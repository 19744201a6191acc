/- Casks: contracts: Strengths, Tenths, Duty, Duties. -/
import Derived.Test.YtclagbonpachfaaGreatYPrC2
set_option linter.all false
set_option linter.unusedSimpArgs false
set_option linter.unusedVariables false
namespace Go.Proofs.YtclagbonpachfaaGreat
open Go Go.Ev
set_option maxRecDepth 1000000
set_option maxHeartbeats 0
noncomputable section
variable (lw:Nat) (fw:Nat→Nat→Int) (lm:Nat) (fm:Nat→Nat→Int) (n:Nat) (ls:Nat→Nat) (f:Nat→Nat→Nat→Int)
def XHt:Ext:=conX [(52,cf valLv)] false
theorem ht1 (r:Int) (nc:Nat) (fc:Nat→Nat→Int) (l0 l1 l2 l3 l4 l5 h0 h1 h2 h3 h4 h5:Int) (k:Nat) (t:Nat→Nat→Int) (h:¬ k=nc):VC (runD0 Tryz.prog XHt 600 51 (enc [.st [.sl 1 lw fw,.sl 1 lm fm,.rr 1 n ls f,.i .i64 r,.sl 5 nc fc,.i .i64 l0,.i .i64 l1,.i .i64 l2,.i .i64 l3,.i .i64 l4,.i .i64 l5,.i .i64 h0,.i .i64 h1,.i .i64 h2,.i .i64 h3,.i .i64 h4,.i .i64 h5],.one (.sl 1 k t)] 0) 5 (fun v=>valP v (.bool false))) (.go 5 .nil):=VC_of (((not (iEq ((k:Nat):Int) ((nc:Nat):Int)))=true∧(false=false)))
end
end Go.Proofs.YtclagbonpachfaaGreat
