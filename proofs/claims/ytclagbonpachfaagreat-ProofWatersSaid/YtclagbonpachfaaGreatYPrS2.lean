/- Casks: the bounds of a blend's strength, as a contract. -/
import Derived.Test.YtclagbonpachfaaGreatYPrS1
set_option linter.all false
set_option linter.unusedSimpArgs false
set_option linter.unusedVariables false
namespace Go.Proofs.YtclagbonpachfaaGreat
namespace BL
open Go Go.Ev
set_option maxRecDepth 1000000
set_option maxHeartbeats 0
noncomputable section
def XBe:Ext:=conX [(75,cf valSn)] false
theorem XBe_ok:ExtOK Tryz.prog XBe:=conX_ok (allCon_cons (con_ok conSn) allCon_nil)
theorem be (lw:Nat) (fw:Nat→Nat→Int) (lm:Nat) (fm:Nat→Nat→Int) (n:Nat) (ls:Nat→Nat) (f:Nat→Nat→Nat→Int) (r:Int) (nc:Nat) (fc:Nat→Nat→Int) (l0 l1 l2 l3 l4 l5 h0 h1 h2 h3 h4 h5:Int) (k:Nat) (g:Nat→Nat→Int) (w:Int) (b1:blB nc fc k g w l0 l1 l2 l3 l4 l5=true) (b2:blB nc fc k g w h0 h1 h2 h3 h4 h5=true):VC (runD0 Tryz.prog XBe 600 46 (enc [.st [.sl 1 lw fw,.sl 1 lm fm,.rr 1 n ls f,.i .i64 r,.sl 5 nc fc,.i .i64 l0,.i .i64 l1,.i .i64 l2,.i .i64 l3,.i .i64 l4,.i .i64 l5,.i .i64 h0,.i .i64 h1,.i .i64 h2,.i .i64 h3,.i .i64 h4,.i .i64 h5],.one (.sl 1 k g),.one (.i .i64 w)] 0) 5 (fun v=>valP v (.agg 2 (T.setL .lf 0 [.int .i64 (Int.tdiv (ssm fc g l0 l1 l2 l3 l4 l5 k) (gsm fc g w k)),.int .i64 (Int.tdiv (ssm fc g h0 h1 h2 h3 h4 h5 k) (gsm fc g w k))])))) (.go 21 .nil):=VC_of (((cond (cond (cond (allI .i64 (cellsI .i64 fw) lw 1) (cond (allI .i64 (cellsI .i64 fm) lm 1) (cond (cond true (allR 2 (rowsI 2 1 ls f) n 1) false) (cond (allI .i64 (cellsI .i64 fc) nc 5) true false) false) false) false) (cond (allI .i64 (cellsI .i64 g) k 1) true false) false) (BL.blB nc fc k g w l0 l1 l2 l3 l4 l5) false)=true∧((cond (cond (cond (allI .i64 (cellsI .i64 fw) lw 1) (cond (allI .i64 (cellsI .i64 fm) lm 1) (cond (cond true (allR 2 (rowsI 2 1 ls f) n 1) false) (cond (allI .i64 (cellsI .i64 fc) nc 5) true false) false) false) false) (cond (allI .i64 (cellsI .i64 g) k 1) true false) false) (BL.blB nc fc k g w h0 h1 h2 h3 h4 h5) false)=true∧((((Int.tdiv (BL.ssm fc g l0 l1 l2 l3 l4 l5 k) (BL.gsm fc g w k)):Int)=(Int.tdiv (BL.ssm fc g l0 l1 l2 l3 l4 l5 k) (BL.gsm fc g w k)))∧((((Int.tdiv (BL.ssm fc g h0 h1 h2 h3 h4 h5 k) (BL.gsm fc g w k)):Int)=(Int.tdiv (BL.ssm fc g h0 h1 h2 h3 h4 h5 k) (BL.gsm fc g w k)))∧True)))))
def blV (fc:Nat→Nat→Int) (g:Nat→Nat→Int) (w:Int) (t0 t1 t2 t3 t4 t5:Int) (k:Nat):Int:=Int.tdiv (ssm fc g t0 t1 t2 t3 t4 t5 k) (gsm fc g w k)
def valBe:Val:=fun das=>match das with | [.st [.sl 1 lw fw,.sl 1 lm fm,.rr 1 n ls f,.i .i64 r,.sl 5 nc fc,.i .i64 l0,.i .i64 l1,.i .i64 l2,.i .i64 l3,.i .i64 l4,.i .i64 l5,.i .i64 h0,.i .i64 h1,.i .i64 h2,.i .i64 h3,.i .i64 h4,.i .i64 h5],.one (.sl 1 k g),.one (.i .i64 w)]=>some (cond (blB nc fc k g w l0 l1 l2 l3 l4 l5) (blB nc fc k g w h0 h1 h2 h3 h4 h5) false,.agg 2 (T.setL .lf 0 [.int .i64 (blV fc g w l0 l1 l2 l3 l4 l5 k),.int .i64 (blV fc g w h0 h1 h2 h3 h4 h5 k)])) | _=>none
theorem conBe:Con Tryz.prog 46 valBe:=by
  intro das v hv
  unfold valBe at hv
  split at hv
  · rename_i lw fw lm fm n ls f r nc fc l0 l1 l2 l3 l4 l5 h0 h1 h2 h3 h4 h5 k g w
    have hb:=congrArg Prod.fst (Option.some.inj hv)
    have hv:=congrArg Prod.snd (Option.some.inj hv)
    subst hv
    obtain ⟨b1,b2⟩:=cond_tt hb
    exact con_runV drawnC XBe_ok rfl (das:=[.st [.sl 1 lw fw,.sl 1 lm fm,.rr 1 n ls f,.i .i64 r,.sl 5 nc fc,.i .i64 l0,.i .i64 l1,.i .i64 l2,.i .i64 l3,.i .i64 l4,.i .i64 l5,.i .i64 h0,.i .i64 h1,.i .i64 h2,.i .i64 h3,.i .i64 h4,.i .i64 h5],.one (.sl 1 k g),.one (.i .i64 w)]) (be lw fw lm fm n ls f r nc fc l0 l1 l2 l3 l4 l5 h0 h1 h2 h3 h4 h5 k g w b1 b2)
  · cases hv
end
end BL
end Go.Proofs.YtclagbonpachfaaGreat
