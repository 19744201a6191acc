/- Mixtures: HeatMixes: the law's run. -/
import Derived.Test.YthakjbbhbnhmeaaGreatYHtM3
import Derived.Test.YthakjbbhbnhmeaaGreatYHtAll
set_option linter.all false
set_option linter.unusedSimpArgs false
set_option linter.unusedVariables false
namespace Go.Proofs.YthakjbbhbnhmeaaGreat
namespace MX
open Go Go.Ev
set_option maxRecDepth 1000000
set_option maxHeartbeats 0
noncomputable section
def XL:Ext:=Q9 [(4,cf HE.valAw),(6,cfN OB),(5,cf O0),(7,cf PL),(9,cf LJ)] false
theorem Wj:bM Tryz.prog XL:=AA (bI (qO HE.conAw)<|bI (QU VH)<|bI (qO Vt)<|bI (qO V9)<|bI (qO WE) oG)
theorem hm9 (m:Nat) (g:Nat→Nat→Int) (h:¬ m≤9):VC (di Tryz.prog XL 600 3 (enc [.one (.sl 3 m g)] 0) 1 (fun v=>bZ v (.bool true))) (.go 5 .nil):=aP (((not (dn (m:Int) 9))=true∧(true=true)))
theorem hm2 (m:Nat) (g:Nat→Nat→Int) (h:m≤9) (h2:¬ mxE g m=0) (e1:mxL g m=0) (e2:mxH g m=0):VC (di Tryz.prog XL 600 3 (enc [.one (.sl 3 m g)] 0) 1 (fun v=>bZ v (.bool true))) (.go 1312086 .nil):=aP (((not (dn (m:Int) 9))=false∧((cond (cond (gG .i64 (ay .i64 g) m 3) true false) (Nat.ble m 9) false)=true∧((cond (cond (gG .i64 (ay .i64 g) m 3) true false) true false)=true∧((cond (cond (gG .i64 (ay .i64 g) m 3) true false) true false)=true∧((not (eu (MX.mxE g m) 0))=true∧((eu (MX.mxE g m) (MX.mxE g m))=true∧((cond (eu (MX.mxL g m) 0) (cond (eu (MX.mxH g m) 0) true false) false)=true∧(true=true)))))))))
theorem hm3 (m:Nat) (g:Nat→Nat→Int) (h:m≤9) (h2:mxE g m=0) (e1:mxL g m=mxQ g m 1) (e2:mxH g m=mxQ g m 2):VC (di Tryz.prog XL 600 3 (enc [.one (.sl 3 m g)] 0) 1 (fun v=>bZ v (.bool true))) (.go 83953238 .nil):=aP (((not (dn (m:Int) 9))=false∧((cond (cond (gG .i64 (ay .i64 g) m 3) true false) (Nat.ble m 9) false)=true∧((cond (cond (gG .i64 (ay .i64 g) m 3) true false) true false)=true∧((cond (cond (gG .i64 (ay .i64 g) m 3) true false) true false)=true∧((not (eu (MX.mxE g m) 0))=false∧((eu (MX.mxE g m) 0)=true∧((cond (cond (gG .i64 (ay .i64 g) m 3) true false) (eu (MX.mxE g m) 0) false)=true∧((cond (eu (MX.mxL g m) (MX.mxQ g m 1)) (cond (eu (MX.mxH g m) (MX.mxQ g m 2)) true false) false)=true∧(true=true))))))))))
end
end MX
end Go.Proofs.YthakjbbhbnhmeaaGreat
