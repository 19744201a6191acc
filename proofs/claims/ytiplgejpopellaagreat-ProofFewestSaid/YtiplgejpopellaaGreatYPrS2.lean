/- Casks: the bounds of a blend's strength, as a contract. -/
import Derived.Test.YtiplgejpopellaaGreatYPrS1
set_option linter.all false
set_option linter.unusedSimpArgs false
set_option linter.unusedVariables false
namespace Go.Proofs.YtiplgejpopellaaGreat
namespace BL
open Go Go.Ev
set_option maxRecDepth 1000000
set_option maxHeartbeats 0
noncomputable section
def XBe:Ext:=jO [(74,cf VF)] false
theorem ZT:dM Tryz.prog XBe:=dW (aA (dR aaf) bK)
theorem be (A:Nat) (B:Nat→Nat→Int) (I:Nat) (J:Nat→Nat→Int) (n:Nat) (M:Nat→Nat) (f:Nat→Nat→Nat→Int) (r:Int) (O:Nat) (E:Nat→Nat→Int) (l0 l1 l2 l3 l4 l5 h0 h1 h2 h3 h4 h5:Int) (k:Nat) (g:Nat→Nat→Int) (w:Int) (b1:blB O E k g w l0 l1 l2 l3 l4 l5=true) (b2:blB O E k g w h0 h1 h2 h3 h4 h5=true):VC (dh Tryz.prog XBe 600 44 (enc [.st [.sl 1 A B,.sl 1 I J,.rr 1 n M f,.i .i64 r,.sl 5 O E,.i .i64 l0,.i .i64 l1,.i .i64 l2,.i .i64 l3,.i .i64 l4,.i .i64 l5,.i .i64 h0,.i .i64 h1,.i .i64 h2,.i .i64 h3,.i .i64 h4,.i .i64 h5],.one (.sl 1 k g),.one (.i .i64 w)] 0) 5 (fun v=>dB v (.agg 2 (T.setL .lf 0 [.int .i64 (Int.tdiv (xY E g l0 l1 l2 l3 l4 l5 k) (lD E g w k)),.int .i64 (Int.tdiv (xY E g h0 h1 h2 h3 h4 h5 k) (lD E g w k))])))) (.go 21 .nil):=ai (((cond (cond (cond (ay .i64 (ae .i64 B) A 1) (cond (ay .i64 (ae .i64 J) I 1) (cond (cond true (fZ 2 (aQ 2 1 M f) n 1) false) (cond (ay .i64 (ae .i64 E) O 5) true false) false) false) false) (cond (ay .i64 (ae .i64 g) k 1) true false) false) (blB O E k g w l0 l1 l2 l3 l4 l5) false)=true∧((cond (cond (cond (ay .i64 (ae .i64 B) A 1) (cond (ay .i64 (ae .i64 J) I 1) (cond (cond true (fZ 2 (aQ 2 1 M f) n 1) false) (cond (ay .i64 (ae .i64 E) O 5) true false) false) false) false) (cond (ay .i64 (ae .i64 g) k 1) true false) false) (blB O E k g w h0 h1 h2 h3 h4 h5) false)=true∧((((Int.tdiv (xY E g l0 l1 l2 l3 l4 l5 k) (lD E g w k)):Int)=(Int.tdiv (xY E g l0 l1 l2 l3 l4 l5 k) (lD E g w k)))∧((((Int.tdiv (xY E g h0 h1 h2 h3 h4 h5 k) (lD E g w k)):Int)=(Int.tdiv (xY E g h0 h1 h2 h3 h4 h5 k) (lD E g w k)))∧True)))))
def blV (E:Nat→Nat→Int) (g:Nat→Nat→Int) (w:Int) (t0 t1 t2 t3 t4 t5:Int) (k:Nat):Int:=Int.tdiv (xY E g t0 t1 t2 t3 t4 t5 k) (lD E g w k)
def TM:Val:=fun das=>match das with | [.st [.sl 1 A B,.sl 1 I J,.rr 1 n M f,.i .i64 r,.sl 5 O E,.i .i64 l0,.i .i64 l1,.i .i64 l2,.i .i64 l3,.i .i64 l4,.i .i64 l5,.i .i64 h0,.i .i64 h1,.i .i64 h2,.i .i64 h3,.i .i64 h4,.i .i64 h5],.one (.sl 1 k g),.one (.i .i64 w)]=>some (cond (blB O E k g w l0 l1 l2 l3 l4 l5) (blB O E k g w h0 h1 h2 h3 h4 h5) false,.agg 2 (T.setL .lf 0 [.int .i64 (blV E g w l0 l1 l2 l3 l4 l5 k),.int .i64 (blV E g w h0 h1 h2 h3 h4 h5 k)])) | _=>none
theorem aaQ:qi Tryz.prog 44 TM:=by
 intro das v hv
 unfold TM at hv
 split at hv
 ·rename_i A B I J n M f r O E l0 l1 l2 l3 l4 l5 h0 h1 h2 h3 h4 h5 k g w
  have hb:=congrArg Prod.fst (Option.some.inj hv)
  have hv:=congrArg Prod.snd (Option.some.inj hv)
  subst hv
  obtain ⟨b1,b2⟩:=ah hb
  exact bn aj ZT rfl (das:=[.st [.sl 1 A B,.sl 1 I J,.rr 1 n M f,.i .i64 r,.sl 5 O E,.i .i64 l0,.i .i64 l1,.i .i64 l2,.i .i64 l3,.i .i64 l4,.i .i64 l5,.i .i64 h0,.i .i64 h1,.i .i64 h2,.i .i64 h3,.i .i64 h4,.i .i64 h5],.one (.sl 1 k g),.one (.i .i64 w)]) (be A B I J n M f r O E l0 l1 l2 l3 l4 l5 h0 h1 h2 h3 h4 h5 k g w b1 b2)
 ·cases hv
end
end BL
end Go.Proofs.YtiplgejpopellaaGreat
