/- Casks: the strength of a blend, as a contract: a range over a function, round by round. -/
import Derived.Test.YtclagbonpachfaaGreatYPrC4
import Derived.Test.YtclagbonpachfaaGreatYEe
set_option linter.all false
set_option linter.unusedSimpArgs false
set_option linter.unusedVariables false
namespace Go.Proofs.YtclagbonpachfaaGreat
namespace BL
open Go Go.Ev
set_option maxRecDepth 1000000
set_option maxHeartbeats 0
noncomputable section
variable (lw:Nat) (fw:Nat→Nat→Int) (lm:Nat) (fm:Nat→Nat→Int) (n:Nat) (ls:Nat→Nat) (f:Nat→Nat→Nat→Int)
def dasS (lw:Nat) (fw:Nat→Nat→Int) (lm:Nat) (fm:Nat→Nat→Int) (n:Nat) (ls:Nat→Nat) (f:Nat→Nat→Nat→Int) (r:Int) (nc:Nat) (fc:Nat→Nat→Int) (l0 l1 l2 l3 l4 l5 h0 h1 h2 h3 h4 h5:Int) (k:Nat) (g:Nat→Nat→Int) (w:Int) (t0 t1 t2 t3 t4 t5:Int):List DA:=[.st [.sl 1 lw fw,.sl 1 lm fm,.rr 1 n ls f,.i .i64 r,.sl 5 nc fc,.i .i64 l0,.i .i64 l1,.i .i64 l2,.i .i64 l3,.i .i64 l4,.i .i64 l5,.i .i64 h0,.i .i64 h1,.i .i64 h2,.i .i64 h3,.i .i64 h4,.i .i64 h5],.one (.sl 1 k g),.one (.i .i64 w),.st [.i .i64 t0,.i .i64 t1,.i .i64 t2,.i .i64 t3,.i .i64 t4,.i .i64 t5]]
def pS:List Nat:=[1,1,0,1,0]
def hS (lw:Nat) (fw:Nat→Nat→Int) (lm:Nat) (fm:Nat→Nat→Int) (n:Nat) (ls:Nat→Nat) (f:Nat→Nat→Nat→Int) (r:Int) (nc:Nat) (fc:Nat→Nat→Int) (l0 l1 l2 l3 l4 l5 h0 h1 h2 h3 h4 h5:Int) (k:Nat) (g:Nat→Nat→Int) (w:Int) (t0 t1 t2 t3 t4 t5:Int):EH:=toH (toLoop Tryz.prog noExt 300 75 pS (dasS lw fw lm fm n ls f r nc fc l0 l1 l2 l3 l4 l5 h0 h1 h2 h3 h4 h5 k g w t0 t1 t2 t3 t4 t5))
def aS (lw:Nat) (fw:Nat→Nat→Int) (lm:Nat) (fm:Nat→Nat→Int) (n:Nat) (ls:Nat→Nat) (f:Nat→Nat→Nat→Int) (r:Int) (nc:Nat) (fc:Nat→Nat→Int) (l0 l1 l2 l3 l4 l5 h0 h1 h2 h3 h4 h5:Int) (k:Nat) (g:Nat→Nat→Int) (w:Int) (t0 t1 t2 t3 t4 t5:Int):EA:=toA (toLoop Tryz.prog noExt 300 75 pS (dasS lw fw lm fm n ls f r nc fc l0 l1 l2 l3 l4 l5 h0 h1 h2 h3 h4 h5 k g w t0 t1 t2 t3 t4 t5))
def cS:Code:=sub pS (bodyOf Tryz.prog 75)
def baseS (lw:Nat) (fw:Nat→Nat→Int) (lm:Nat) (fm:Nat→Nat→Int) (n:Nat) (ls:Nat→Nat) (f:Nat→Nat→Nat→Int) (r:Int) (nc:Nat) (fc:Nat→Nat→Int) (l0 l1 l2 l3 l4 l5 h0 h1 h2 h3 h4 h5:Int) (k:Nat) (g:Nat→Nat→Int) (w:Int) (t0 t1 t2 t3 t4 t5:Int):EH:=rangeH (hS lw fw lm fm n ls f r nc fc l0 l1 l2 l3 l4 l5 h0 h1 h2 h3 h4 h5 k g w t0 t1 t2 t3 t4 t5) (aS lw fw lm fm n ls f r nc fc l0 l1 l2 l3 l4 l5 h0 h1 h2 h3 h4 h5 k g w t0 t1 t2 t3 t4 t5) (rfPs cS) (rfAs cS) (rfBd cS)
def ES (lw:Nat) (fw:Nat→Nat→Int) (lm:Nat) (fm:Nat→Nat→Int) (n:Nat) (ls:Nat→Nat) (f:Nat→Nat→Nat→Int) (r:Int) (nc:Nat) (fc:Nat→Nat→Int) (l0 l1 l2 l3 l4 l5 h0 h1 h2 h3 h4 h5:Int) (k:Nat) (g:Nat→Nat→Int) (w:Int) (t0 t1 t2 t3 t4 t5:Int):Env:=⟨baseS lw fw lm fm n ls f r nc fc l0 l1 l2 l3 l4 l5 h0 h1 h2 h3 h4 h5 k g w t0 t1 t2 t3 t4 t5,8,14,100,23⟩
def bP:Code:=bodyOf Tryz.prog 103
def b1:Code:=sub [1,0,0] bP
def lE:List V:=[.yld 13,.ptr 11 0,.ptr 10 0]
def lC (k:Nat) (g:Nat→Nat→Int) (i:Nat):List V:=[.yld 13,.ptr 10 0,.fz true 4 (cellsI .i64 g) k 1,.int .i64 k,.int .i64 i]
def gR (l:List V) (G S:Int):GS:=⟨l,[(8,[.int .i64 G]),(9,[.int .i64 S])],none⟩
def s3:List Nat:=[0,1,2]
def sC:List Nat:=[0,2,6,7,8]
theorem p0 (r:Int) (nc:Nat) (fc:Nat→Nat→Int) (l0 l1 l2 l3 l4 l5 h0 h1 h2 h3 h4 h5:Int) (k:Nat) (g:Nat→Nat→Int) (w:Int) (t0 t1 t2 t3 t4 t5:Int):VC (pieceD Tryz.prog noExt 300 (ES lw fw lm fm n ls f r nc fc l0 l1 l2 l3 l4 l5 h0 h1 h2 h3 h4 h5 k g w t0 t1 t2 t3 t4 t5) none (sub [0] bP) ⟨s3,gR lE w 0⟩ .normal ⟨sC,gR (lC k g 0) w 0⟩) .nil:=VC_of (((((V.yld 13:V)=V.yld 13)∧((((V.ptr 10 0):V)=(V.ptr 10 0))∧((((V.fz true 4 (cellsI .i64 g) k 1):V)=(V.fz true 4 (cellsI .i64 g) k 1))∧(((((k:Nat):Int):Int)=((k:Nat):Int))∧((((0):Int)=(0))∧True)))))∧(((((w:Int)=w)∧True)∧(((((0):Int)=(0))∧True)∧True))∧(((((ES lw fw lm fm n ls f r nc fc l0 l1 l2 l3 l4 l5 h0 h1 h2 h3 h4 h5 k g w t0 t1 t2 t3 t4 t5).base.objs.get
  (ES lw fw lm fm n ls f r nc fc l0 l1 l2 l3 l4 l5 h0 h1 h2 h3 h4 h5 k g w t0 t1 t2 t3 t4 t5).L.succ.succ:Option EO)=(ES lw fw lm fm n ls f r nc fc l0 l1 l2 l3 l4 l5 h0 h1 h2 h3 h4 h5 k g w t0 t1 t2 t3 t4 t5).base.objs.get
  (ES lw fw lm fm n ls f r nc fc l0 l1 l2 l3 l4 l5 h0 h1 h2 h3 h4 h5 k g w t0 t1 t2 t3 t4 t5).L.succ.succ)∧((((ES lw fw lm fm n ls f r nc fc l0 l1 l2 l3 l4 l5 h0 h1 h2 h3 h4 h5 k g w t0 t1 t2 t3 t4 t5).base.objs.get
  (ES lw fw lm fm n ls f r nc fc l0 l1 l2 l3 l4 l5 h0 h1 h2 h3 h4 h5 k g w t0 t1 t2 t3 t4 t5).L.succ.succ.succ:Option EO)=(ES lw fw lm fm n ls f r nc fc l0 l1 l2 l3 l4 l5 h0 h1 h2 h3 h4 h5 k g w t0 t1 t2 t3 t4 t5).base.objs.get
  (ES lw fw lm fm n ls f r nc fc l0 l1 l2 l3 l4 l5 h0 h1 h2 h3 h4 h5 k g w t0 t1 t2 t3 t4 t5).L.succ.succ.succ)∧((((ES lw fw lm fm n ls f r nc fc l0 l1 l2 l3 l4 l5 h0 h1 h2 h3 h4 h5 k g w t0 t1 t2 t3 t4 t5).base.objs.get
  (ES lw fw lm fm n ls f r nc fc l0 l1 l2 l3 l4 l5 h0 h1 h2 h3 h4 h5 k g w t0 t1 t2 t3 t4 t5).L.succ.succ.succ.succ:Option EO)=(ES lw fw lm fm n ls f r nc fc l0 l1 l2 l3 l4 l5 h0 h1 h2 h3 h4 h5 k g w t0 t1 t2 t3 t4 t5).base.objs.get
  (ES lw fw lm fm n ls f r nc fc l0 l1 l2 l3 l4 l5 h0 h1 h2 h3 h4 h5 k g w t0 t1 t2 t3 t4 t5).L.succ.succ.succ.succ)∧((((ES lw fw lm fm n ls f r nc fc l0 l1 l2 l3 l4 l5 h0 h1 h2 h3 h4 h5 k g w t0 t1 t2 t3 t4 t5).base.objs.get
  (ES lw fw lm fm n ls f r nc fc l0 l1 l2 l3 l4 l5 h0 h1 h2 h3 h4 h5 k g w t0 t1 t2 t3 t4 t5).L.succ.succ.succ.succ.succ:Option EO)=(ES lw fw lm fm n ls f r nc fc l0 l1 l2 l3 l4 l5 h0 h1 h2 h3 h4 h5 k g w t0 t1 t2 t3 t4 t5).base.objs.get
  (ES lw fw lm fm n ls f r nc fc l0 l1 l2 l3 l4 l5 h0 h1 h2 h3 h4 h5 k g w t0 t1 t2 t3 t4 t5).L.succ.succ.succ.succ.succ)∧True))))∧True))))
theorem rd (r:Int) (nc:Nat) (fc:Nat→Nat→Int) (l0 l1 l2 l3 l4 l5 h0 h1 h2 h3 h4 h5:Int) (k:Nat) (g:Nat→Nat→Int) (w:Int) (t0 t1 t2 t3 t4 t5:Int) (G S:Int) (i:Nat) (k1:i<k) (k2:k≤1000) (k3:0≤g i 0∧g i 0<nc) (k4:nc≤6) (k5:1≤(fc (Int.toNat (g i 0)) 0)∧(fc (Int.toNat (g i 0)) 0)≤99) (hG:0≤G∧G≤1000000) (hS:0≤S∧S≤1000000000) (q0:g i 0=0→0≤(fc (Int.toNat (g i 0)) 0)*t0∧(fc (Int.toNat (g i 0)) 0)*t0≤1000000) (q1:g i 0=1→0≤(fc (Int.toNat (g i 0)) 0)*t1∧(fc (Int.toNat (g i 0)) 0)*t1≤1000000) (q2:g i 0=2→0≤(fc (Int.toNat (g i 0)) 0)*t2∧(fc (Int.toNat (g i 0)) 0)*t2≤1000000) (q3:g i 0=3→0≤(fc (Int.toNat (g i 0)) 0)*t3∧(fc (Int.toNat (g i 0)) 0)*t3≤1000000) (q4:g i 0=4→0≤(fc (Int.toNat (g i 0)) 0)*t4∧(fc (Int.toNat (g i 0)) 0)*t4≤1000000) (q5:g i 0=5→0≤(fc (Int.toNat (g i 0)) 0)*t5∧(fc (Int.toNat (g i 0)) 0)*t5≤1000000):VC (pieceD Tryz.prog noExt 300 (ES lw fw lm fm n ls f r nc fc l0 l1 l2 l3 l4 l5 h0 h1 h2 h3 h4 h5 k g w t0 t1 t2 t3 t4 t5) none b1 ⟨sC,gR (lC k g i) G S⟩ .normal ⟨sC,gR (lC k g (i+1)) (G+(fc (Int.toNat (g i 0)) 0)) (S+(fc (Int.toNat (g i 0)) 0)*(selI [t0,t1,t2,t3,t4,t5] (g i 0)))⟩) (.go 341 (.cs (0) (.go 325 .nil) (.cs (1) (.go 325 .nil) (.cs (2) (.go 325 .nil) (.cs (3) (.go 325 .nil) (.cs (4) (.go 325 .nil) (.cs (5) (.go 325 .nil) .nil))))))):=VC_of (((not (iLe ((k:Nat):Int) ((i:Nat):Int)))=true∧((Nat.blt i k)=true∧((iIn (g i 0) nc)=true∧((small (G+(fc (Int.toNat (g i 0)) 0)))=true∧((((g i 0):Int)=(0)∨((g i 0):Int)=(1)∨((g i 0):Int)=(2)∨((g i 0):Int)=(3)∨((g i 0):Int)=(4)∨((g i 0):Int)=(5)∨False)∧((((g i 0):Int)=(0)→((small ((fc (Int.toNat (g i 0)) 0)*t0))=true∧((small (S+((fc (Int.toNat (g i 0)) 0)*t0)))=true∧((small (((i:Nat):Int)+(1)))=true∧((((V.yld 13:V)=V.yld 13)∧((((V.ptr 10 0):V)=(V.ptr 10 0))∧((((V.fz true 4 (cellsI .i64 g) k 1):V)=(V.fz true 4 (cellsI .i64 g) k 1))∧(((((k:Nat):Int):Int)=((k:Nat):Int))∧((((((i:Nat):Int)+(1)):Int)=(((i+1):Nat):Int))∧True)))))∧((((((G+(fc (Int.toNat (g i 0)) 0)):Int)=(G+(fc (Int.toNat (g i 0)) 0)))∧True)∧(((((S+((fc (Int.toNat (g i 0)) 0)*t0)):Int)=(S+((fc (Int.toNat (g i 0)) 0)*(selI [t0,t1,t2,t3,t4,t5] (g i 0)))))∧True)∧True))∧(((((ES lw fw lm fm n ls f r nc fc l0 l1 l2 l3 l4 l5 h0 h1 h2 h3 h4 h5 k g w t0 t1 t2 t3 t4 t5).base.objs.get
  (ES lw fw lm fm n ls f r nc fc l0 l1 l2 l3 l4 l5 h0 h1 h2 h3 h4 h5 k g w t0 t1 t2 t3 t4 t5).L.succ.succ:Option EO)=(ES lw fw lm fm n ls f r nc fc l0 l1 l2 l3 l4 l5 h0 h1 h2 h3 h4 h5 k g w t0 t1 t2 t3 t4 t5).base.objs.get
  (ES lw fw lm fm n ls f r nc fc l0 l1 l2 l3 l4 l5 h0 h1 h2 h3 h4 h5 k g w t0 t1 t2 t3 t4 t5).L.succ.succ)∧((((ES lw fw lm fm n ls f r nc fc l0 l1 l2 l3 l4 l5 h0 h1 h2 h3 h4 h5 k g w t0 t1 t2 t3 t4 t5).base.objs.get
  (ES lw fw lm fm n ls f r nc fc l0 l1 l2 l3 l4 l5 h0 h1 h2 h3 h4 h5 k g w t0 t1 t2 t3 t4 t5).L.succ.succ.succ:Option EO)=(ES lw fw lm fm n ls f r nc fc l0 l1 l2 l3 l4 l5 h0 h1 h2 h3 h4 h5 k g w t0 t1 t2 t3 t4 t5).base.objs.get
  (ES lw fw lm fm n ls f r nc fc l0 l1 l2 l3 l4 l5 h0 h1 h2 h3 h4 h5 k g w t0 t1 t2 t3 t4 t5).L.succ.succ.succ)∧((((ES lw fw lm fm n ls f r nc fc l0 l1 l2 l3 l4 l5 h0 h1 h2 h3 h4 h5 k g w t0 t1 t2 t3 t4 t5).base.objs.get
  (ES lw fw lm fm n ls f r nc fc l0 l1 l2 l3 l4 l5 h0 h1 h2 h3 h4 h5 k g w t0 t1 t2 t3 t4 t5).L.succ.succ.succ.succ:Option EO)=(ES lw fw lm fm n ls f r nc fc l0 l1 l2 l3 l4 l5 h0 h1 h2 h3 h4 h5 k g w t0 t1 t2 t3 t4 t5).base.objs.get
  (ES lw fw lm fm n ls f r nc fc l0 l1 l2 l3 l4 l5 h0 h1 h2 h3 h4 h5 k g w t0 t1 t2 t3 t4 t5).L.succ.succ.succ.succ)∧((((ES lw fw lm fm n ls f r nc fc l0 l1 l2 l3 l4 l5 h0 h1 h2 h3 h4 h5 k g w t0 t1 t2 t3 t4 t5).base.objs.get
  (ES lw fw lm fm n ls f r nc fc l0 l1 l2 l3 l4 l5 h0 h1 h2 h3 h4 h5 k g w t0 t1 t2 t3 t4 t5).L.succ.succ.succ.succ.succ:Option EO)=(ES lw fw lm fm n ls f r nc fc l0 l1 l2 l3 l4 l5 h0 h1 h2 h3 h4 h5 k g w t0 t1 t2 t3 t4 t5).base.objs.get
  (ES lw fw lm fm n ls f r nc fc l0 l1 l2 l3 l4 l5 h0 h1 h2 h3 h4 h5 k g w t0 t1 t2 t3 t4 t5).L.succ.succ.succ.succ.succ)∧True))))∧True)))))))∧(((g i 0):Int)=(1)→((small ((fc (Int.toNat (g i 0)) 0)*t1))=true∧((small (S+((fc (Int.toNat (g i 0)) 0)*t1)))=true∧((small (((i:Nat):Int)+(1)))=true∧((((V.yld 13:V)=V.yld 13)∧((((V.ptr 10 0):V)=(V.ptr 10 0))∧((((V.fz true 4 (cellsI .i64 g) k 1):V)=(V.fz true 4 (cellsI .i64 g) k 1))∧(((((k:Nat):Int):Int)=((k:Nat):Int))∧((((((i:Nat):Int)+(1)):Int)=(((i+1):Nat):Int))∧True)))))∧((((((G+(fc (Int.toNat (g i 0)) 0)):Int)=(G+(fc (Int.toNat (g i 0)) 0)))∧True)∧(((((S+((fc (Int.toNat (g i 0)) 0)*t1)):Int)=(S+((fc (Int.toNat (g i 0)) 0)*(selI [t0,t1,t2,t3,t4,t5] (g i 0)))))∧True)∧True))∧(((((ES lw fw lm fm n ls f r nc fc l0 l1 l2 l3 l4 l5 h0 h1 h2 h3 h4 h5 k g w t0 t1 t2 t3 t4 t5).base.objs.get
  (ES lw fw lm fm n ls f r nc fc l0 l1 l2 l3 l4 l5 h0 h1 h2 h3 h4 h5 k g w t0 t1 t2 t3 t4 t5).L.succ.succ:Option EO)=(ES lw fw lm fm n ls f r nc fc l0 l1 l2 l3 l4 l5 h0 h1 h2 h3 h4 h5 k g w t0 t1 t2 t3 t4 t5).base.objs.get
  (ES lw fw lm fm n ls f r nc fc l0 l1 l2 l3 l4 l5 h0 h1 h2 h3 h4 h5 k g w t0 t1 t2 t3 t4 t5).L.succ.succ)∧((((ES lw fw lm fm n ls f r nc fc l0 l1 l2 l3 l4 l5 h0 h1 h2 h3 h4 h5 k g w t0 t1 t2 t3 t4 t5).base.objs.get
  (ES lw fw lm fm n ls f r nc fc l0 l1 l2 l3 l4 l5 h0 h1 h2 h3 h4 h5 k g w t0 t1 t2 t3 t4 t5).L.succ.succ.succ:Option EO)=(ES lw fw lm fm n ls f r nc fc l0 l1 l2 l3 l4 l5 h0 h1 h2 h3 h4 h5 k g w t0 t1 t2 t3 t4 t5).base.objs.get
  (ES lw fw lm fm n ls f r nc fc l0 l1 l2 l3 l4 l5 h0 h1 h2 h3 h4 h5 k g w t0 t1 t2 t3 t4 t5).L.succ.succ.succ)∧((((ES lw fw lm fm n ls f r nc fc l0 l1 l2 l3 l4 l5 h0 h1 h2 h3 h4 h5 k g w t0 t1 t2 t3 t4 t5).base.objs.get
  (ES lw fw lm fm n ls f r nc fc l0 l1 l2 l3 l4 l5 h0 h1 h2 h3 h4 h5 k g w t0 t1 t2 t3 t4 t5).L.succ.succ.succ.succ:Option EO)=(ES lw fw lm fm n ls f r nc fc l0 l1 l2 l3 l4 l5 h0 h1 h2 h3 h4 h5 k g w t0 t1 t2 t3 t4 t5).base.objs.get
  (ES lw fw lm fm n ls f r nc fc l0 l1 l2 l3 l4 l5 h0 h1 h2 h3 h4 h5 k g w t0 t1 t2 t3 t4 t5).L.succ.succ.succ.succ)∧((((ES lw fw lm fm n ls f r nc fc l0 l1 l2 l3 l4 l5 h0 h1 h2 h3 h4 h5 k g w t0 t1 t2 t3 t4 t5).base.objs.get
  (ES lw fw lm fm n ls f r nc fc l0 l1 l2 l3 l4 l5 h0 h1 h2 h3 h4 h5 k g w t0 t1 t2 t3 t4 t5).L.succ.succ.succ.succ.succ:Option EO)=(ES lw fw lm fm n ls f r nc fc l0 l1 l2 l3 l4 l5 h0 h1 h2 h3 h4 h5 k g w t0 t1 t2 t3 t4 t5).base.objs.get
  (ES lw fw lm fm n ls f r nc fc l0 l1 l2 l3 l4 l5 h0 h1 h2 h3 h4 h5 k g w t0 t1 t2 t3 t4 t5).L.succ.succ.succ.succ.succ)∧True))))∧True)))))))∧(((g i 0):Int)=(2)→((small ((fc (Int.toNat (g i 0)) 0)*t2))=true∧((small (S+((fc (Int.toNat (g i 0)) 0)*t2)))=true∧((small (((i:Nat):Int)+(1)))=true∧((((V.yld 13:V)=V.yld 13)∧((((V.ptr 10 0):V)=(V.ptr 10 0))∧((((V.fz true 4 (cellsI .i64 g) k 1):V)=(V.fz true 4 (cellsI .i64 g) k 1))∧(((((k:Nat):Int):Int)=((k:Nat):Int))∧((((((i:Nat):Int)+(1)):Int)=(((i+1):Nat):Int))∧True)))))∧((((((G+(fc (Int.toNat (g i 0)) 0)):Int)=(G+(fc (Int.toNat (g i 0)) 0)))∧True)∧(((((S+((fc (Int.toNat (g i 0)) 0)*t2)):Int)=(S+((fc (Int.toNat (g i 0)) 0)*(selI [t0,t1,t2,t3,t4,t5] (g i 0)))))∧True)∧True))∧(((((ES lw fw lm fm n ls f r nc fc l0 l1 l2 l3 l4 l5 h0 h1 h2 h3 h4 h5 k g w t0 t1 t2 t3 t4 t5).base.objs.get
  (ES lw fw lm fm n ls f r nc fc l0 l1 l2 l3 l4 l5 h0 h1 h2 h3 h4 h5 k g w t0 t1 t2 t3 t4 t5).L.succ.succ:Option EO)=(ES lw fw lm fm n ls f r nc fc l0 l1 l2 l3 l4 l5 h0 h1 h2 h3 h4 h5 k g w t0 t1 t2 t3 t4 t5).base.objs.get
  (ES lw fw lm fm n ls f r nc fc l0 l1 l2 l3 l4 l5 h0 h1 h2 h3 h4 h5 k g w t0 t1 t2 t3 t4 t5).L.succ.succ)∧((((ES lw fw lm fm n ls f r nc fc l0 l1 l2 l3 l4 l5 h0 h1 h2 h3 h4 h5 k g w t0 t1 t2 t3 t4 t5).base.objs.get
  (ES lw fw lm fm n ls f r nc fc l0 l1 l2 l3 l4 l5 h0 h1 h2 h3 h4 h5 k g w t0 t1 t2 t3 t4 t5).L.succ.succ.succ:Option EO)=(ES lw fw lm fm n ls f r nc fc l0 l1 l2 l3 l4 l5 h0 h1 h2 h3 h4 h5 k g w t0 t1 t2 t3 t4 t5).base.objs.get
  (ES lw fw lm fm n ls f r nc fc l0 l1 l2 l3 l4 l5 h0 h1 h2 h3 h4 h5 k g w t0 t1 t2 t3 t4 t5).L.succ.succ.succ)∧((((ES lw fw lm fm n ls f r nc fc l0 l1 l2 l3 l4 l5 h0 h1 h2 h3 h4 h5 k g w t0 t1 t2 t3 t4 t5).base.objs.get
  (ES lw fw lm fm n ls f r nc fc l0 l1 l2 l3 l4 l5 h0 h1 h2 h3 h4 h5 k g w t0 t1 t2 t3 t4 t5).L.succ.succ.succ.succ:Option EO)=(ES lw fw lm fm n ls f r nc fc l0 l1 l2 l3 l4 l5 h0 h1 h2 h3 h4 h5 k g w t0 t1 t2 t3 t4 t5).base.objs.get
  (ES lw fw lm fm n ls f r nc fc l0 l1 l2 l3 l4 l5 h0 h1 h2 h3 h4 h5 k g w t0 t1 t2 t3 t4 t5).L.succ.succ.succ.succ)∧((((ES lw fw lm fm n ls f r nc fc l0 l1 l2 l3 l4 l5 h0 h1 h2 h3 h4 h5 k g w t0 t1 t2 t3 t4 t5).base.objs.get
  (ES lw fw lm fm n ls f r nc fc l0 l1 l2 l3 l4 l5 h0 h1 h2 h3 h4 h5 k g w t0 t1 t2 t3 t4 t5).L.succ.succ.succ.succ.succ:Option EO)=(ES lw fw lm fm n ls f r nc fc l0 l1 l2 l3 l4 l5 h0 h1 h2 h3 h4 h5 k g w t0 t1 t2 t3 t4 t5).base.objs.get
  (ES lw fw lm fm n ls f r nc fc l0 l1 l2 l3 l4 l5 h0 h1 h2 h3 h4 h5 k g w t0 t1 t2 t3 t4 t5).L.succ.succ.succ.succ.succ)∧True))))∧True)))))))∧(((g i 0):Int)=(3)→((small ((fc (Int.toNat (g i 0)) 0)*t3))=true∧((small (S+((fc (Int.toNat (g i 0)) 0)*t3)))=true∧((small (((i:Nat):Int)+(1)))=true∧((((V.yld 13:V)=V.yld 13)∧((((V.ptr 10 0):V)=(V.ptr 10 0))∧((((V.fz true 4 (cellsI .i64 g) k 1):V)=(V.fz true 4 (cellsI .i64 g) k 1))∧(((((k:Nat):Int):Int)=((k:Nat):Int))∧((((((i:Nat):Int)+(1)):Int)=(((i+1):Nat):Int))∧True)))))∧((((((G+(fc (Int.toNat (g i 0)) 0)):Int)=(G+(fc (Int.toNat (g i 0)) 0)))∧True)∧(((((S+((fc (Int.toNat (g i 0)) 0)*t3)):Int)=(S+((fc (Int.toNat (g i 0)) 0)*(selI [t0,t1,t2,t3,t4,t5] (g i 0)))))∧True)∧True))∧(((((ES lw fw lm fm n ls f r nc fc l0 l1 l2 l3 l4 l5 h0 h1 h2 h3 h4 h5 k g w t0 t1 t2 t3 t4 t5).base.objs.get
  (ES lw fw lm fm n ls f r nc fc l0 l1 l2 l3 l4 l5 h0 h1 h2 h3 h4 h5 k g w t0 t1 t2 t3 t4 t5).L.succ.succ:Option EO)=(ES lw fw lm fm n ls f r nc fc l0 l1 l2 l3 l4 l5 h0 h1 h2 h3 h4 h5 k g w t0 t1 t2 t3 t4 t5).base.objs.get
  (ES lw fw lm fm n ls f r nc fc l0 l1 l2 l3 l4 l5 h0 h1 h2 h3 h4 h5 k g w t0 t1 t2 t3 t4 t5).L.succ.succ)∧((((ES lw fw lm fm n ls f r nc fc l0 l1 l2 l3 l4 l5 h0 h1 h2 h3 h4 h5 k g w t0 t1 t2 t3 t4 t5).base.objs.get
  (ES lw fw lm fm n ls f r nc fc l0 l1 l2 l3 l4 l5 h0 h1 h2 h3 h4 h5 k g w t0 t1 t2 t3 t4 t5).L.succ.succ.succ:Option EO)=(ES lw fw lm fm n ls f r nc fc l0 l1 l2 l3 l4 l5 h0 h1 h2 h3 h4 h5 k g w t0 t1 t2 t3 t4 t5).base.objs.get
  (ES lw fw lm fm n ls f r nc fc l0 l1 l2 l3 l4 l5 h0 h1 h2 h3 h4 h5 k g w t0 t1 t2 t3 t4 t5).L.succ.succ.succ)∧((((ES lw fw lm fm n ls f r nc fc l0 l1 l2 l3 l4 l5 h0 h1 h2 h3 h4 h5 k g w t0 t1 t2 t3 t4 t5).base.objs.get
  (ES lw fw lm fm n ls f r nc fc l0 l1 l2 l3 l4 l5 h0 h1 h2 h3 h4 h5 k g w t0 t1 t2 t3 t4 t5).L.succ.succ.succ.succ:Option EO)=(ES lw fw lm fm n ls f r nc fc l0 l1 l2 l3 l4 l5 h0 h1 h2 h3 h4 h5 k g w t0 t1 t2 t3 t4 t5).base.objs.get
  (ES lw fw lm fm n ls f r nc fc l0 l1 l2 l3 l4 l5 h0 h1 h2 h3 h4 h5 k g w t0 t1 t2 t3 t4 t5).L.succ.succ.succ.succ)∧((((ES lw fw lm fm n ls f r nc fc l0 l1 l2 l3 l4 l5 h0 h1 h2 h3 h4 h5 k g w t0 t1 t2 t3 t4 t5).base.objs.get
  (ES lw fw lm fm n ls f r nc fc l0 l1 l2 l3 l4 l5 h0 h1 h2 h3 h4 h5 k g w t0 t1 t2 t3 t4 t5).L.succ.succ.succ.succ.succ:Option EO)=(ES lw fw lm fm n ls f r nc fc l0 l1 l2 l3 l4 l5 h0 h1 h2 h3 h4 h5 k g w t0 t1 t2 t3 t4 t5).base.objs.get
  (ES lw fw lm fm n ls f r nc fc l0 l1 l2 l3 l4 l5 h0 h1 h2 h3 h4 h5 k g w t0 t1 t2 t3 t4 t5).L.succ.succ.succ.succ.succ)∧True))))∧True)))))))∧(((g i 0):Int)=(4)→((small ((fc (Int.toNat (g i 0)) 0)*t4))=true∧((small (S+((fc (Int.toNat (g i 0)) 0)*t4)))=true∧((small (((i:Nat):Int)+(1)))=true∧((((V.yld 13:V)=V.yld 13)∧((((V.ptr 10 0):V)=(V.ptr 10 0))∧((((V.fz true 4 (cellsI .i64 g) k 1):V)=(V.fz true 4 (cellsI .i64 g) k 1))∧(((((k:Nat):Int):Int)=((k:Nat):Int))∧((((((i:Nat):Int)+(1)):Int)=(((i+1):Nat):Int))∧True)))))∧((((((G+(fc (Int.toNat (g i 0)) 0)):Int)=(G+(fc (Int.toNat (g i 0)) 0)))∧True)∧(((((S+((fc (Int.toNat (g i 0)) 0)*t4)):Int)=(S+((fc (Int.toNat (g i 0)) 0)*(selI [t0,t1,t2,t3,t4,t5] (g i 0)))))∧True)∧True))∧(((((ES lw fw lm fm n ls f r nc fc l0 l1 l2 l3 l4 l5 h0 h1 h2 h3 h4 h5 k g w t0 t1 t2 t3 t4 t5).base.objs.get
  (ES lw fw lm fm n ls f r nc fc l0 l1 l2 l3 l4 l5 h0 h1 h2 h3 h4 h5 k g w t0 t1 t2 t3 t4 t5).L.succ.succ:Option EO)=(ES lw fw lm fm n ls f r nc fc l0 l1 l2 l3 l4 l5 h0 h1 h2 h3 h4 h5 k g w t0 t1 t2 t3 t4 t5).base.objs.get
  (ES lw fw lm fm n ls f r nc fc l0 l1 l2 l3 l4 l5 h0 h1 h2 h3 h4 h5 k g w t0 t1 t2 t3 t4 t5).L.succ.succ)∧((((ES lw fw lm fm n ls f r nc fc l0 l1 l2 l3 l4 l5 h0 h1 h2 h3 h4 h5 k g w t0 t1 t2 t3 t4 t5).base.objs.get
  (ES lw fw lm fm n ls f r nc fc l0 l1 l2 l3 l4 l5 h0 h1 h2 h3 h4 h5 k g w t0 t1 t2 t3 t4 t5).L.succ.succ.succ:Option EO)=(ES lw fw lm fm n ls f r nc fc l0 l1 l2 l3 l4 l5 h0 h1 h2 h3 h4 h5 k g w t0 t1 t2 t3 t4 t5).base.objs.get
  (ES lw fw lm fm n ls f r nc fc l0 l1 l2 l3 l4 l5 h0 h1 h2 h3 h4 h5 k g w t0 t1 t2 t3 t4 t5).L.succ.succ.succ)∧((((ES lw fw lm fm n ls f r nc fc l0 l1 l2 l3 l4 l5 h0 h1 h2 h3 h4 h5 k g w t0 t1 t2 t3 t4 t5).base.objs.get
  (ES lw fw lm fm n ls f r nc fc l0 l1 l2 l3 l4 l5 h0 h1 h2 h3 h4 h5 k g w t0 t1 t2 t3 t4 t5).L.succ.succ.succ.succ:Option EO)=(ES lw fw lm fm n ls f r nc fc l0 l1 l2 l3 l4 l5 h0 h1 h2 h3 h4 h5 k g w t0 t1 t2 t3 t4 t5).base.objs.get
  (ES lw fw lm fm n ls f r nc fc l0 l1 l2 l3 l4 l5 h0 h1 h2 h3 h4 h5 k g w t0 t1 t2 t3 t4 t5).L.succ.succ.succ.succ)∧((((ES lw fw lm fm n ls f r nc fc l0 l1 l2 l3 l4 l5 h0 h1 h2 h3 h4 h5 k g w t0 t1 t2 t3 t4 t5).base.objs.get
  (ES lw fw lm fm n ls f r nc fc l0 l1 l2 l3 l4 l5 h0 h1 h2 h3 h4 h5 k g w t0 t1 t2 t3 t4 t5).L.succ.succ.succ.succ.succ:Option EO)=(ES lw fw lm fm n ls f r nc fc l0 l1 l2 l3 l4 l5 h0 h1 h2 h3 h4 h5 k g w t0 t1 t2 t3 t4 t5).base.objs.get
  (ES lw fw lm fm n ls f r nc fc l0 l1 l2 l3 l4 l5 h0 h1 h2 h3 h4 h5 k g w t0 t1 t2 t3 t4 t5).L.succ.succ.succ.succ.succ)∧True))))∧True)))))))∧(((g i 0):Int)=(5)→((small ((fc (Int.toNat (g i 0)) 0)*t5))=true∧((small (S+((fc (Int.toNat (g i 0)) 0)*t5)))=true∧((small (((i:Nat):Int)+(1)))=true∧((((V.yld 13:V)=V.yld 13)∧((((V.ptr 10 0):V)=(V.ptr 10 0))∧((((V.fz true 4 (cellsI .i64 g) k 1):V)=(V.fz true 4 (cellsI .i64 g) k 1))∧(((((k:Nat):Int):Int)=((k:Nat):Int))∧((((((i:Nat):Int)+(1)):Int)=(((i+1):Nat):Int))∧True)))))∧((((((G+(fc (Int.toNat (g i 0)) 0)):Int)=(G+(fc (Int.toNat (g i 0)) 0)))∧True)∧(((((S+((fc (Int.toNat (g i 0)) 0)*t5)):Int)=(S+((fc (Int.toNat (g i 0)) 0)*(selI [t0,t1,t2,t3,t4,t5] (g i 0)))))∧True)∧True))∧(((((ES lw fw lm fm n ls f r nc fc l0 l1 l2 l3 l4 l5 h0 h1 h2 h3 h4 h5 k g w t0 t1 t2 t3 t4 t5).base.objs.get
  (ES lw fw lm fm n ls f r nc fc l0 l1 l2 l3 l4 l5 h0 h1 h2 h3 h4 h5 k g w t0 t1 t2 t3 t4 t5).L.succ.succ:Option EO)=(ES lw fw lm fm n ls f r nc fc l0 l1 l2 l3 l4 l5 h0 h1 h2 h3 h4 h5 k g w t0 t1 t2 t3 t4 t5).base.objs.get
  (ES lw fw lm fm n ls f r nc fc l0 l1 l2 l3 l4 l5 h0 h1 h2 h3 h4 h5 k g w t0 t1 t2 t3 t4 t5).L.succ.succ)∧((((ES lw fw lm fm n ls f r nc fc l0 l1 l2 l3 l4 l5 h0 h1 h2 h3 h4 h5 k g w t0 t1 t2 t3 t4 t5).base.objs.get
  (ES lw fw lm fm n ls f r nc fc l0 l1 l2 l3 l4 l5 h0 h1 h2 h3 h4 h5 k g w t0 t1 t2 t3 t4 t5).L.succ.succ.succ:Option EO)=(ES lw fw lm fm n ls f r nc fc l0 l1 l2 l3 l4 l5 h0 h1 h2 h3 h4 h5 k g w t0 t1 t2 t3 t4 t5).base.objs.get
  (ES lw fw lm fm n ls f r nc fc l0 l1 l2 l3 l4 l5 h0 h1 h2 h3 h4 h5 k g w t0 t1 t2 t3 t4 t5).L.succ.succ.succ)∧((((ES lw fw lm fm n ls f r nc fc l0 l1 l2 l3 l4 l5 h0 h1 h2 h3 h4 h5 k g w t0 t1 t2 t3 t4 t5).base.objs.get
  (ES lw fw lm fm n ls f r nc fc l0 l1 l2 l3 l4 l5 h0 h1 h2 h3 h4 h5 k g w t0 t1 t2 t3 t4 t5).L.succ.succ.succ.succ:Option EO)=(ES lw fw lm fm n ls f r nc fc l0 l1 l2 l3 l4 l5 h0 h1 h2 h3 h4 h5 k g w t0 t1 t2 t3 t4 t5).base.objs.get
  (ES lw fw lm fm n ls f r nc fc l0 l1 l2 l3 l4 l5 h0 h1 h2 h3 h4 h5 k g w t0 t1 t2 t3 t4 t5).L.succ.succ.succ.succ)∧((((ES lw fw lm fm n ls f r nc fc l0 l1 l2 l3 l4 l5 h0 h1 h2 h3 h4 h5 k g w t0 t1 t2 t3 t4 t5).base.objs.get
  (ES lw fw lm fm n ls f r nc fc l0 l1 l2 l3 l4 l5 h0 h1 h2 h3 h4 h5 k g w t0 t1 t2 t3 t4 t5).L.succ.succ.succ.succ.succ:Option EO)=(ES lw fw lm fm n ls f r nc fc l0 l1 l2 l3 l4 l5 h0 h1 h2 h3 h4 h5 k g w t0 t1 t2 t3 t4 t5).base.objs.get
  (ES lw fw lm fm n ls f r nc fc l0 l1 l2 l3 l4 l5 h0 h1 h2 h3 h4 h5 k g w t0 t1 t2 t3 t4 t5).L.succ.succ.succ.succ.succ)∧True))))∧True)))))))∧True))))))) (q:=by
  (repeat' (first | exact True.intro | (with_reducible assumption) | refine And.intro ?_ ?_ | refine cond_mk ?_ ?_ | intro hh));all_goals (first | (with_reducible assumption) | (with_reducible rfl) | omega | (rw [hh];rfl) | (exact DEFT)))
theorem rx (r:Int) (nc:Nat) (fc:Nat→Nat→Int) (l0 l1 l2 l3 l4 l5 h0 h1 h2 h3 h4 h5:Int) (k:Nat) (g:Nat→Nat→Int) (w:Int) (t0 t1 t2 t3 t4 t5:Int) (G S:Int) (i:Nat) (k1:¬ i<k):VC (pieceD Tryz.prog noExt 300 (ES lw fw lm fm n ls f r nc fc l0 l1 l2 l3 l4 l5 h0 h1 h2 h3 h4 h5 k g w t0 t1 t2 t3 t4 t5) none b1 ⟨sC,gR (lC k g i) G S⟩ (.exit 0) ⟨[],gR [] G S⟩) (.go 6 .nil):=VC_of (((not (iLe ((k:Nat):Int) ((i:Nat):Int)))=false∧(True∧(((((G:Int)=G)∧True)∧((((S:Int)=S)∧True)∧True))∧(((((ES lw fw lm fm n ls f r nc fc l0 l1 l2 l3 l4 l5 h0 h1 h2 h3 h4 h5 k g w t0 t1 t2 t3 t4 t5).base.objs.get
  (ES lw fw lm fm n ls f r nc fc l0 l1 l2 l3 l4 l5 h0 h1 h2 h3 h4 h5 k g w t0 t1 t2 t3 t4 t5).L.succ.succ:Option EO)=(ES lw fw lm fm n ls f r nc fc l0 l1 l2 l3 l4 l5 h0 h1 h2 h3 h4 h5 k g w t0 t1 t2 t3 t4 t5).base.objs.get
  (ES lw fw lm fm n ls f r nc fc l0 l1 l2 l3 l4 l5 h0 h1 h2 h3 h4 h5 k g w t0 t1 t2 t3 t4 t5).L.succ.succ)∧((((ES lw fw lm fm n ls f r nc fc l0 l1 l2 l3 l4 l5 h0 h1 h2 h3 h4 h5 k g w t0 t1 t2 t3 t4 t5).base.objs.get
  (ES lw fw lm fm n ls f r nc fc l0 l1 l2 l3 l4 l5 h0 h1 h2 h3 h4 h5 k g w t0 t1 t2 t3 t4 t5).L.succ.succ.succ:Option EO)=(ES lw fw lm fm n ls f r nc fc l0 l1 l2 l3 l4 l5 h0 h1 h2 h3 h4 h5 k g w t0 t1 t2 t3 t4 t5).base.objs.get
  (ES lw fw lm fm n ls f r nc fc l0 l1 l2 l3 l4 l5 h0 h1 h2 h3 h4 h5 k g w t0 t1 t2 t3 t4 t5).L.succ.succ.succ)∧((((ES lw fw lm fm n ls f r nc fc l0 l1 l2 l3 l4 l5 h0 h1 h2 h3 h4 h5 k g w t0 t1 t2 t3 t4 t5).base.objs.get
  (ES lw fw lm fm n ls f r nc fc l0 l1 l2 l3 l4 l5 h0 h1 h2 h3 h4 h5 k g w t0 t1 t2 t3 t4 t5).L.succ.succ.succ.succ:Option EO)=(ES lw fw lm fm n ls f r nc fc l0 l1 l2 l3 l4 l5 h0 h1 h2 h3 h4 h5 k g w t0 t1 t2 t3 t4 t5).base.objs.get
  (ES lw fw lm fm n ls f r nc fc l0 l1 l2 l3 l4 l5 h0 h1 h2 h3 h4 h5 k g w t0 t1 t2 t3 t4 t5).L.succ.succ.succ.succ)∧((((ES lw fw lm fm n ls f r nc fc l0 l1 l2 l3 l4 l5 h0 h1 h2 h3 h4 h5 k g w t0 t1 t2 t3 t4 t5).base.objs.get
  (ES lw fw lm fm n ls f r nc fc l0 l1 l2 l3 l4 l5 h0 h1 h2 h3 h4 h5 k g w t0 t1 t2 t3 t4 t5).L.succ.succ.succ.succ.succ:Option EO)=(ES lw fw lm fm n ls f r nc fc l0 l1 l2 l3 l4 l5 h0 h1 h2 h3 h4 h5 k g w t0 t1 t2 t3 t4 t5).base.objs.get
  (ES lw fw lm fm n ls f r nc fc l0 l1 l2 l3 l4 l5 h0 h1 h2 h3 h4 h5 k g w t0 t1 t2 t3 t4 t5).L.succ.succ.succ.succ.succ)∧True))))∧True)))))
theorem en (r:Int) (nc:Nat) (fc:Nat→Nat→Int) (l0 l1 l2 l3 l4 l5 h0 h1 h2 h3 h4 h5:Int) (k:Nat) (g:Nat→Nat→Int) (w:Int) (t0 t1 t2 t3 t4 t5:Int):VC (D.leaf ((ES lw fw lm fm n ls f r nc fc l0 l1 l2 l3 l4 l5 h0 h1 h2 h3 h4 h5 k g w t0 t1 t2 t3 t4 t5).pack ⟨s3,gR lE w 0⟩ ⟨initT false lE,23,[]⟩ (lowTo (baseS lw fw lm fm n ls f r nc fc l0 l1 l2 l3 l4 l5 h0 h1 h2 h3 h4 h5 k g w t0 t1 t2 t3 t4 t5) big))) .nil:=VC_of (((((V.yld 13:V)=V.yld 13)∧((((V.ptr 11 0):V)=(V.ptr 11 0))∧((((V.ptr 10 0):V)=(V.ptr 10 0))∧True)))∧(((((w:Int)=w)∧True)∧(((((0):Int)=(0))∧True)∧True))∧(((((ES lw fw lm fm n ls f r nc fc l0 l1 l2 l3 l4 l5 h0 h1 h2 h3 h4 h5 k g w t0 t1 t2 t3 t4 t5).base.objs.get
  (ES lw fw lm fm n ls f r nc fc l0 l1 l2 l3 l4 l5 h0 h1 h2 h3 h4 h5 k g w t0 t1 t2 t3 t4 t5).L.succ.succ:Option EO)=(ES lw fw lm fm n ls f r nc fc l0 l1 l2 l3 l4 l5 h0 h1 h2 h3 h4 h5 k g w t0 t1 t2 t3 t4 t5).base.objs.get
  (ES lw fw lm fm n ls f r nc fc l0 l1 l2 l3 l4 l5 h0 h1 h2 h3 h4 h5 k g w t0 t1 t2 t3 t4 t5).L.succ.succ)∧((((ES lw fw lm fm n ls f r nc fc l0 l1 l2 l3 l4 l5 h0 h1 h2 h3 h4 h5 k g w t0 t1 t2 t3 t4 t5).base.objs.get
  (ES lw fw lm fm n ls f r nc fc l0 l1 l2 l3 l4 l5 h0 h1 h2 h3 h4 h5 k g w t0 t1 t2 t3 t4 t5).L.succ.succ.succ:Option EO)=(ES lw fw lm fm n ls f r nc fc l0 l1 l2 l3 l4 l5 h0 h1 h2 h3 h4 h5 k g w t0 t1 t2 t3 t4 t5).base.objs.get
  (ES lw fw lm fm n ls f r nc fc l0 l1 l2 l3 l4 l5 h0 h1 h2 h3 h4 h5 k g w t0 t1 t2 t3 t4 t5).L.succ.succ.succ)∧((((ES lw fw lm fm n ls f r nc fc l0 l1 l2 l3 l4 l5 h0 h1 h2 h3 h4 h5 k g w t0 t1 t2 t3 t4 t5).base.objs.get
  (ES lw fw lm fm n ls f r nc fc l0 l1 l2 l3 l4 l5 h0 h1 h2 h3 h4 h5 k g w t0 t1 t2 t3 t4 t5).L.succ.succ.succ.succ:Option EO)=(ES lw fw lm fm n ls f r nc fc l0 l1 l2 l3 l4 l5 h0 h1 h2 h3 h4 h5 k g w t0 t1 t2 t3 t4 t5).base.objs.get
  (ES lw fw lm fm n ls f r nc fc l0 l1 l2 l3 l4 l5 h0 h1 h2 h3 h4 h5 k g w t0 t1 t2 t3 t4 t5).L.succ.succ.succ.succ)∧((((ES lw fw lm fm n ls f r nc fc l0 l1 l2 l3 l4 l5 h0 h1 h2 h3 h4 h5 k g w t0 t1 t2 t3 t4 t5).base.objs.get
  (ES lw fw lm fm n ls f r nc fc l0 l1 l2 l3 l4 l5 h0 h1 h2 h3 h4 h5 k g w t0 t1 t2 t3 t4 t5).L.succ.succ.succ.succ.succ:Option EO)=(ES lw fw lm fm n ls f r nc fc l0 l1 l2 l3 l4 l5 h0 h1 h2 h3 h4 h5 k g w t0 t1 t2 t3 t4 t5).base.objs.get
  (ES lw fw lm fm n ls f r nc fc l0 l1 l2 l3 l4 l5 h0 h1 h2 h3 h4 h5 k g w t0 t1 t2 t3 t4 t5).L.succ.succ.succ.succ.succ)∧True))))∧True))))
def r1 (lw:Nat) (fw:Nat→Nat→Int) (lm:Nat) (fm:Nat→Nat→Int) (n:Nat) (ls:Nat→Nat) (f:Nat→Nat→Nat→Int) (r:Int) (nc:Nat) (fc:Nat→Nat→Int) (l0 l1 l2 l3 l4 l5 h0 h1 h2 h3 h4 h5:Int) (k:Nat) (g:Nat→Nat→Int) (w:Int) (t0 t1 t2 t3 t4 t5:Int) (G S:Int):Res := .normal ⟨(aS lw fw lm fm n ls f r nc fc l0 l1 l2 l3 l4 l5 h0 h1 h2 h3 h4 h5 k g w t0 t1 t2 t3 t4 t5).tm,(aS lw fw lm fm n ls f r nc fc l0 l1 l2 l3 l4 l5 h0 h1 h2 h3 h4 h5 k g w t0 t1 t2 t3 t4 t5).n,(hS lw fw lm fm n ls f r nc fc l0 l1 l2 l3 l4 l5 h0 h1 h2 h3 h4 h5 k g w t0 t1 t2 t3 t4 t5).next::(aS lw fw lm fm n ls f r nc fc l0 l1 l2 l3 l4 l5 h0 h1 h2 h3 h4 h5 k g w t0 t1 t2 t3 t4 t5).df⟩ (setLoop (gsH (baseS lw fw lm fm n ls f r nc fc l0 l1 l2 l3 l4 l5 h0 h1 h2 h3 h4 h5 k g w t0 t1 t2 t3 t4 t5) 100 (minN 8 (baseS lw fw lm fm n ls f r nc fc l0 l1 l2 l3 l4 l5 h0 h1 h2 h3 h4 h5 k g w t0 t1 t2 t3 t4 t5).low) (gR [] G S)) (Nat.succ (hS lw fw lm fm n ls f r nc fc l0 l1 l2 l3 l4 l5 h0 h1 h2 h3 h4 h5 k g w t0 t1 t2 t3 t4 t5).next) .exhausted none (aS lw fw lm fm n ls f r nc fc l0 l1 l2 l3 l4 l5 h0 h1 h2 h3 h4 h5 k g w t0 t1 t2 t3 t4 t5).tm (aS lw fw lm fm n ls f r nc fc l0 l1 l2 l3 l4 l5 h0 h1 h2 h3 h4 h5 k g w t0 t1 t2 t3 t4 t5).n (rfPs cS) (rfAs cS) (rfBd cS) (hS lw fw lm fm n ls f r nc fc l0 l1 l2 l3 l4 l5 h0 h1 h2 h3 h4 h5 k g w t0 t1 t2 t3 t4 t5).next)
theorem fr (r:Int) (nc:Nat) (fc:Nat→Nat→Int) (l0 l1 l2 l3 l4 l5 h0 h1 h2 h3 h4 h5:Int) (k:Nat) (g:Nat→Nat→Int) (w:Int) (t0 t1 t2 t3 t4 t5:Int) (G S:Int) (hG:1≤G) (hv:0≤Int.tdiv S G∧Int.tdiv S G≤1000000000):VC (goFromK Tryz.prog kD noExt (.leaf False) 300 none pS (bodyOf Tryz.prog 75) (r1 lw fw lm fm n ls f r nc fc l0 l1 l2 l3 l4 l5 h0 h1 h2 h3 h4 h5 k g w t0 t1 t2 t3 t4 t5 G S) (fun r => .leaf (resD Tryz.prog 75 (fun v _=>valP v (.int .i64 (Int.tdiv S G))) r))) (.go 22 .nil):=VC_of (((iEq G (0))=false∧((small (Int.tdiv S G))=true∧(((Int.tdiv S G):Int)=(Int.tdiv S G)))))
theorem toS (lw:Nat) (fw:Nat→Nat→Int) (lm:Nat) (fm:Nat→Nat→Int) (n:Nat) (ls:Nat→Nat) (f:Nat→Nat→Nat→Int) (r:Int) (nc:Nat) (fc:Nat→Nat→Int) (l0 l1 l2 l3 l4 l5 h0 h1 h2 h3 h4 h5:Int) (k:Nat) (g:Nat→Nat→Int) (w:Int) (t0 t1 t2 t3 t4 t5:Int):toLoop Tryz.prog noExt 300 75 pS (dasS lw fw lm fm n ls f r nc fc l0 l1 l2 l3 l4 l5 h0 h1 h2 h3 h4 h5 k g w t0 t1 t2 t3 t4 t5)=some (aS lw fw lm fm n ls f r nc fc l0 l1 l2 l3 l4 l5 h0 h1 h2 h3 h4 h5 k g w t0 t1 t2 t3 t4 t5,hS lw fw lm fm n ls f r nc fc l0 l1 l2 l3 l4 l5 h0 h1 h2 h3 h4 h5 k g w t0 t1 t2 t3 t4 t5):=by kernel_rfl
theorem okG (lw:Nat) (fw:Nat→Nat→Int) (lm:Nat) (fm:Nat→Nat→Int) (n:Nat) (ls:Nat→Nat) (f:Nat→Nat→Nat→Int) (r:Int) (nc:Nat) (fc:Nat→Nat→Int) (l0 l1 l2 l3 l4 l5 h0 h1 h2 h3 h4 h5:Int) (k:Nat) (g:Nat→Nat→Int) (w:Int) (t0 t1 t2 t3 t4 t5:Int) {ts:List Nat} {l:List V} {G S:Int} (h:(ES lw fw lm fm n ls f r nc fc l0 l1 l2 l3 l4 l5 h0 h1 h2 h3 h4 h5 k g w t0 t1 t2 t3 t4 t5).okB ⟨ts,gR l G S⟩=true):(ES lw fw lm fm n ls f r nc fc l0 l1 l2 l3 l4 l5 h0 h1 h2 h3 h4 h5 k g w t0 t1 t2 t3 t4 t5).ok ⟨ts,gR l G S⟩:=⟨h,trivial⟩
def gsm (fc:Nat→Nat→Int) (g:Nat→Nat→Int) (w:Int) (i:Nat):Int:=Nat.rec w (fun i a=>a+(fc (Int.toNat (g i 0)) 0)) i
def ssm (fc:Nat→Nat→Int) (g:Nat→Nat→Int) (t0 t1 t2 t3 t4 t5:Int) (i:Nat):Int:=Nat.rec 0 (fun i a=>a+(fc (Int.toNat (g i 0)) 0)*(selI [t0,t1,t2,t3,t4,t5] (g i 0))) i
def blB (nc:Nat) (fc:Nat→Nat→Int) (k:Nat) (g:Nat→Nat→Int) (w:Int) (t0 t1 t2 t3 t4 t5:Int):Bool:=cond (tnB nc fc t0 t1 t2 t3 t4 t5) (cond (Nat.ble k 1000) (cond (iLe 0 w) (cond (iLe w 1000) (cond (allN (fun i=>iIn (g i 0) nc) k) (iLe 1 (gsm fc g w k)) false) false) false) false) false
theorem bl_one {nc:Nat} {fc:Nat→Nat→Int} {k:Nat} {g:Nat→Nat→Int} {w:Int} {t0 t1 t2 t3 t4 t5:Int} (h:blB nc fc k g w t0 t1 t2 t3 t4 t5=true):k≤1000∧(0≤w∧w≤1000)∧1≤gsm fc g w k∧nc≤6∧∀ i,i<k→(0≤g i 0∧g i 0<nc)∧(1≤(fc (Int.toNat (g i 0)) 0)∧(fc (Int.toNat (g i 0)) 0)≤99)∧(g i 0=0→0≤(fc (Int.toNat (g i 0)) 0)*t0∧(fc (Int.toNat (g i 0)) 0)*t0≤198000)∧(g i 0=1→0≤(fc (Int.toNat (g i 0)) 0)*t1∧(fc (Int.toNat (g i 0)) 0)*t1≤198000)∧(g i 0=2→0≤(fc (Int.toNat (g i 0)) 0)*t2∧(fc (Int.toNat (g i 0)) 0)*t2≤198000)∧(g i 0=3→0≤(fc (Int.toNat (g i 0)) 0)*t3∧(fc (Int.toNat (g i 0)) 0)*t3≤198000)∧(g i 0=4→0≤(fc (Int.toNat (g i 0)) 0)*t4∧(fc (Int.toNat (g i 0)) 0)*t4≤198000)∧(g i 0=5→0≤(fc (Int.toNat (g i 0)) 0)*t5∧(fc (Int.toNat (g i 0)) 0)*t5≤198000):=by
  obtain ⟨a1,h⟩:=cond_tt h
  obtain ⟨a2,h⟩:=cond_tt h
  obtain ⟨a3,h⟩:=cond_tt h
  obtain ⟨a4,h⟩:=cond_tt h
  obtain ⟨a5,a6⟩:=cond_tt h
  obtain ⟨b1,b2⟩:=cond_tt a1
  rw [iLe_t] at a3 a4 a6
  have h6:=Nat.le_of_ble_eq_true b1
  refine ⟨Nat.le_of_ble_eq_true a2,⟨a3,a4⟩,a6,h6,fun i hi=>?_⟩
  have c1:=allN_get a5 i hi
  rw [iIn_t] at c1
  have c2:=allN_get b2 (Int.toNat (g i 0)) (by omega)
  obtain ⟨d1,d2⟩:=cond_tt c2
  have d1:=gaB_t.mp d1
  have d2:=srB_t.mp d2
  have hm:∀ t:Int,0≤t∧t≤2000→0≤(fc (Int.toNat (g i 0)) 0)*t∧(fc (Int.toNat (g i 0)) 0)*t≤198000:=fun t ht=>⟨Int.mul_nonneg (by omega) ht.1,by
    have:=Int.mul_le_mul d1.2 ht.2 ht.1 (by omega)
    omega⟩
  refine ⟨c1,d1,?_,?_,?_,?_,?_,?_⟩<;>(intro e;exact hm _ (by rw [e] at d2;exact d2))
theorem ti_of {g:Nat→Nat→Int} {i nc:Nat} {t0 t1 t2 t3 t4 t5:Int} (h:0≤g i 0∧g i 0<nc) (h6:nc≤6):(g i 0=0∧(selI [t0,t1,t2,t3,t4,t5] (g i 0))=t0)∨(g i 0=1∧(selI [t0,t1,t2,t3,t4,t5] (g i 0))=t1)∨(g i 0=2∧(selI [t0,t1,t2,t3,t4,t5] (g i 0))=t2)∨(g i 0=3∧(selI [t0,t1,t2,t3,t4,t5] (g i 0))=t3)∨(g i 0=4∧(selI [t0,t1,t2,t3,t4,t5] (g i 0))=t4)∨(g i 0=5∧(selI [t0,t1,t2,t3,t4,t5] (g i 0))=t5):=by
  have:g i 0=0∨g i 0=1∨g i 0=2∨g i 0=3∨g i 0=4∨g i 0=5:=by omega
  rcases this with e | e | e | e | e | e
  · exact .inl ⟨e,by rw [e];rfl⟩
  · exact .inr (.inl ⟨e,by rw [e];rfl⟩)
  · exact .inr (.inr (.inl ⟨e,by rw [e];rfl⟩))
  · exact .inr (.inr (.inr (.inl ⟨e,by rw [e];rfl⟩)))
  · exact .inr (.inr (.inr (.inr (.inl ⟨e,by rw [e];rfl⟩))))
  · exact .inr (.inr (.inr (.inr (.inr ⟨e,by rw [e];rfl⟩))))
theorem gsm_s {fc:Nat→Nat→Int} {g:Nat→Nat→Int} {w:Int} (i:Nat):gsm fc g w (i+1)=gsm fc g w i+(fc (Int.toNat (g i 0)) 0):=rfl
theorem ssm_s {fc:Nat→Nat→Int} {g:Nat→Nat→Int} {t0 t1 t2 t3 t4 t5:Int} (i:Nat):ssm fc g t0 t1 t2 t3 t4 t5 (i+1)=ssm fc g t0 t1 t2 t3 t4 t5 i+(fc (Int.toNat (g i 0)) 0)*(selI [t0,t1,t2,t3,t4,t5] (g i 0)):=rfl
theorem bl_sums {nc:Nat} {fc:Nat→Nat→Int} {k:Nat} {g:Nat→Nat→Int} {w:Int} {t0 t1 t2 t3 t4 t5:Int} (h:blB nc fc k g w t0 t1 t2 t3 t4 t5=true):∀ i,i≤k→(0≤gsm fc g w i∧gsm fc g w i≤1000+99*i)∧(0≤ssm fc g t0 t1 t2 t3 t4 t5 i∧ssm fc g t0 t1 t2 t3 t4 t5 i≤198000*i):=by
  obtain ⟨h1,h2,h3,h4,h5⟩:=bl_one h
  intro i
  induction i with
  | zero=>intro _;exact ⟨⟨h2.1,by show w≤_;omega⟩,⟨Int.le_refl 0,by show (0:Int)≤_;omega⟩⟩
  | succ i ih =>
    intro hi
    obtain ⟨i1,i2⟩:=ih (by omega)
    obtain ⟨c1,c2,c3⟩:=h5 i (by omega)
    have e1:=gsm_s (fc:=fc) (g:=g) (w:=w) i
    have e2:=ssm_s (fc:=fc) (g:=g) (t0:=t0) (t1:=t1) (t2:=t2) (t3:=t3) (t4:=t4) (t5:=t5) i
    have e3:0≤(fc (Int.toNat (g i 0)) 0)*(selI [t0,t1,t2,t3,t4,t5] (g i 0))∧(fc (Int.toNat (g i 0)) 0)*(selI [t0,t1,t2,t3,t4,t5] (g i 0))≤198000:=by
      obtain ⟨p0,p1,p2,p3,p4,p5⟩:=c3
      rcases ti_of (t0:=t0) (t1:=t1) (t2:=t2) (t3:=t3) (t4:=t4) (t5:=t5) c1 h4 with ⟨e,e'⟩ | ⟨e,e'⟩ | ⟨e,e'⟩ | ⟨e,e'⟩ | ⟨e,e'⟩ | ⟨e,e'⟩<;>rw [e']
      · exact p0 e
      · exact p1 e
      · exact p2 e
      · exact p3 e
      · exact p4 e
      · exact p5 e
    rw [e1,e2]
    omega
theorem lpS (lw:Nat) (fw:Nat→Nat→Int) (lm:Nat) (fm:Nat→Nat→Int) (n:Nat) (ls:Nat→Nat) (f:Nat→Nat→Nat→Int) (r:Int) (nc:Nat) (fc:Nat→Nat→Int) (l0 l1 l2 l3 l4 l5 h0 h1 h2 h3 h4 h5:Int) (k:Nat) (g:Nat→Nat→Int) (w:Int) (t0 t1 t2 t3 t4 t5:Int) (h:blB nc fc k g w t0 t1 t2 t3 t4 t5=true):JP Tryz.prog (ES lw fw lm fm n ls f r nc fc l0 l1 l2 l3 l4 l5 h0 h1 h2 h3 h4 h5 k g w t0 t1 t2 t3 t4 t5) none (.loop b1) ⟨sC,gR (lC k g 0) w 0⟩ (.exit 0) ⟨[],gR [] (gsm fc g w k) (ssm fc g t0 t1 t2 t3 t4 t5 k)⟩:=by
  obtain ⟨z1,z2,z3,z4,z5⟩:=bl_one h
  refine JP_loop (ts:=sC) (y:=⟨[],gR [] (gsm fc g w k) (ssm fc g t0 t1 t2 t3 t4 t5 k)⟩) (o := .exit 0) (fun q=>by cases q) k (fun i=>gR (lC k g i) (gsm fc g w i) (ssm fc g t0 t1 t2 t3 t4 t5 i)) (fun i hi=>?_) ?_
  · obtain ⟨s1,s2⟩:=bl_sums h i (by omega)
    obtain ⟨c1,c2,p0',p1,p2,p3,p4,p5⟩:=z5 i hi
    have hr:=(rd lw fw lm fm n ls f r nc fc l0 l1 l2 l3 l4 l5 h0 h1 h2 h3 h4 h5 k g w t0 t1 t2 t3 t4 t5 (gsm fc g w i) (ssm fc g t0 t1 t2 t3 t4 t5 i) i hi z1 c1 z4 c2 (by omega) (by omega) (fun e=>by have:=p0' e;omega) (fun e=>by have:=p1 e;omega) (fun e=>by have:=p2 e;omega) (fun e=>by have:=p3 e;omega) (fun e=>by have:=p4 e;omega) (fun e=>by have:=p5 e;omega)).ok
    rw [← gsm_s,← ssm_s] at hr
    exact piece_of drawnC noExt_ok (okG lw fw lm fm n ls f r nc fc l0 l1 l2 l3 l4 l5 h0 h1 h2 h3 h4 h5 k g w t0 t1 t2 t3 t4 t5 (by kernel_rfl)) (okG lw fw lm fm n ls f r nc fc l0 l1 l2 l3 l4 l5 h0 h1 h2 h3 h4 h5 k g w t0 t1 t2 t3 t4 t5 (by kernel_rfl)) hr
  · exact piece_of drawnC noExt_ok (okG lw fw lm fm n ls f r nc fc l0 l1 l2 l3 l4 l5 h0 h1 h2 h3 h4 h5 k g w t0 t1 t2 t3 t4 t5 (by kernel_rfl)) (okG lw fw lm fm n ls f r nc fc l0 l1 l2 l3 l4 l5 h0 h1 h2 h3 h4 h5 k g w t0 t1 t2 t3 t4 t5 (by kernel_rfl)) (rx lw fw lm fm n ls f r nc fc l0 l1 l2 l3 l4 l5 h0 h1 h2 h3 h4 h5 k g w t0 t1 t2 t3 t4 t5 (gsm fc g w k) (ssm fc g t0 t1 t2 t3 t4 t5 k) k (by omega)).ok
theorem whS (lw:Nat) (fw:Nat→Nat→Int) (lm:Nat) (fm:Nat→Nat→Int) (n:Nat) (ls:Nat→Nat) (f:Nat→Nat→Nat→Int) (r:Int) (nc:Nat) (fc:Nat→Nat→Int) (l0 l1 l2 l3 l4 l5 h0 h1 h2 h3 h4 h5:Int) (k:Nat) (g:Nat→Nat→Int) (w:Int) (t0 t1 t2 t3 t4 t5:Int) (h:blB nc fc k g w t0 t1 t2 t3 t4 t5=true):JP Tryz.prog (ES lw fw lm fm n ls f r nc fc l0 l1 l2 l3 l4 l5 h0 h1 h2 h3 h4 h5 k g w t0 t1 t2 t3 t4 t5) none bP ⟨s3,gR lE w 0⟩ .normal ⟨[],gR [] (gsm fc g w k) (ssm fc g t0 t1 t2 t3 t4 t5 k)⟩:=by
  have e:bP = .seq (sub [0] bP) (.block 0 (.loop b1)):=by kernel_rfl
  exact JP_eq e (JP_seqN (y:=⟨sC,gR (lC k g 0) w 0⟩) (piece_of drawnC noExt_ok (okG lw fw lm fm n ls f r nc fc l0 l1 l2 l3 l4 l5 h0 h1 h2 h3 h4 h5 k g w t0 t1 t2 t3 t4 t5 (by kernel_rfl)) (okG lw fw lm fm n ls f r nc fc l0 l1 l2 l3 l4 l5 h0 h1 h2 h3 h4 h5 k g w t0 t1 t2 t3 t4 t5 (by kernel_rfl)) (p0 lw fw lm fm n ls f r nc fc l0 l1 l2 l3 l4 l5 h0 h1 h2 h3 h4 h5 k g w t0 t1 t2 t3 t4 t5).ok) (JP_exitB (lpS lw fw lm fm n ls f r nc fc l0 l1 l2 l3 l4 l5 h0 h1 h2 h3 h4 h5 k g w t0 t1 t2 t3 t4 t5 h)))
theorem spS (lw:Nat) (fw:Nat→Nat→Int) (lm:Nat) (fm:Nat→Nat→Int) (n:Nat) (ls:Nat→Nat) (f:Nat→Nat→Nat→Int) (r:Int) (nc:Nat) (fc:Nat→Nat→Int) (l0 l1 l2 l3 l4 l5 h0 h1 h2 h3 h4 h5:Int) (k:Nat) (g:Nat→Nat→Int) (w:Int) (t0 t1 t2 t3 t4 t5:Int) (h:blB nc fc k g w t0 t1 t2 t3 t4 t5=true):SpecCall Tryz.prog 103 lE (baseS lw fw lm fm n ls f r nc fc l0 l1 l2 l3 l4 l5 h0 h1 h2 h3 h4 h5 k g w t0 t1 t2 t3 t4 t5) (.tup []) (gsH (baseS lw fw lm fm n ls f r nc fc l0 l1 l2 l3 l4 l5 h0 h1 h2 h3 h4 h5 k g w t0 t1 t2 t3 t4 t5) 100 (minN 8 (baseS lw fw lm fm n ls f r nc fc l0 l1 l2 l3 l4 l5 h0 h1 h2 h3 h4 h5 k g w t0 t1 t2 t3 t4 t5).low) (gR [] (gsm fc g w k) (ssm fc g t0 t1 t2 t3 t4 t5 k))):=by
  have hJ:=J_of_JP (P:=Tryz.prog) (okG lw fw lm fm n ls f r nc fc l0 l1 l2 l3 l4 l5 h0 h1 h2 h3 h4 h5 k g w t0 t1 t2 t3 t4 t5 (by kernel_rfl)) (show (ES lw fw lm fm n ls f r nc fc l0 l1 l2 l3 l4 l5 h0 h1 h2 h3 h4 h5 k g w t0 t1 t2 t3 t4 t5).pack ⟨s3,gR lE w 0⟩ ⟨initT false lE,23,[]⟩ (lowTo (baseS lw fw lm fm n ls f r nc fc l0 l1 l2 l3 l4 l5 h0 h1 h2 h3 h4 h5 k g w t0 t1 t2 t3 t4 t5) big) from (en lw fw lm fm n ls f r nc fc l0 l1 l2 l3 l4 l5 h0 h1 h2 h3 h4 h5 k g w t0 t1 t2 t3 t4 t5).ok) (whS lw fw lm fm n ls f r nc fc l0 l1 l2 l3 l4 l5 h0 h1 h2 h3 h4 h5 k g w t0 t1 t2 t3 t4 t5 h)
  exact call_of (P:=Tryz.prog) (g:=103) false (by kernel_rfl) hJ (by kernel_rfl)
def valSn:Val:=fun das=>match das with | [.st [.sl 1 lw fw,.sl 1 lm fm,.rr 1 n ls f,.i .i64 r,.sl 5 nc fc,.i .i64 l0,.i .i64 l1,.i .i64 l2,.i .i64 l3,.i .i64 l4,.i .i64 l5,.i .i64 h0,.i .i64 h1,.i .i64 h2,.i .i64 h3,.i .i64 h4,.i .i64 h5],.one (.sl 1 k g),.one (.i .i64 w),.st [.i .i64 t0,.i .i64 t1,.i .i64 t2,.i .i64 t3,.i .i64 t4,.i .i64 t5]]=>some (blB nc fc k g w t0 t1 t2 t3 t4 t5,.int .i64 (Int.tdiv (ssm fc g t0 t1 t2 t3 t4 t5 k) (gsm fc g w k))) | _=>none
theorem conSn:Con Tryz.prog 75 valSn:=by
  intro das v hv
  unfold valSn at hv
  split at hv
  · rename_i lw fw lm fm n ls f r nc fc l0 l1 l2 l3 l4 l5 h0 h1 h2 h3 h4 h5 k g w t0 t1 t2 t3 t4 t5
    have hb:=congrArg Prod.fst (Option.some.inj hv)
    have hv:=congrArg Prod.snd (Option.some.inj hv)
    subst hv
    refine ⟨rfl,?_⟩
    obtain ⟨z1,z2,z3,z4,z5⟩:=bl_one hb
    obtain ⟨s1,s2⟩:=bl_sums hb k (by omega)
    have hs:=spS lw fw lm fm n ls f r nc fc l0 l1 l2 l3 l4 l5 h0 h1 h2 h3 h4 h5 k g w t0 t1 t2 t3 t4 t5 hb
    have hc:sub pS (bodyOf Tryz.prog 75) = .rangeFunc (.tmp 16) (rfPs cS) (rfAs cS) (rfBd cS):=by kernel_rfl
    have hJ:=J_range drawnC (g := .tmp 16) (ps:=rfPs cS) (asg:=rfAs cS) (bd:=rfBd cS) (a:=aS lw fw lm fm n ls f r nc fc l0 l1 l2 l3 l4 l5 h0 h1 h2 h3 h4 h5 k g w t0 t1 t2 t3 t4 t5) (H:=hS lw fw lm fm n ls f r nc fc l0 l1 l2 l3 l4 l5 h0 h1 h2 h3 h4 h5 k g w t0 t1 t2 t3 t4 t5) (f:=103) (first:=[]) (captured:=[.ptr 11 0,.ptr 10 0]) (st := .ready) (tm:=(aS lw fw lm fm n ls f r nc fc l0 l1 l2 l3 l4 l5 h0 h1 h2 h3 h4 h5 k g w t0 t1 t2 t3 t4 t5).tm) (n:=(aS lw fw lm fm n ls f r nc fc l0 l1 l2 l3 l4 l5 h0 h1 h2 h3 h4 h5 k g w t0 t1 t2 t3 t4 t5).n) (ps2:=rfPs cS) (as2:=rfAs cS) (bd2:=rfBd cS) (df:=(hS lw fw lm fm n ls f r nc fc l0 l1 l2 l3 l4 l5 h0 h1 h2 h3 h4 h5 k g w t0 t1 t2 t3 t4 t5).next) (by kernel_rfl) (by
      have e:app3 [] [V.yld (Nat.succ (hS lw fw lm fm n ls f r nc fc l0 l1 l2 l3 l4 l5 h0 h1 h2 h3 h4 h5 k g w t0 t1 t2 t3 t4 t5).next)] [.ptr 11 0,.ptr 10 0]=lE:=by kernel_rfl
      rw [e];exact hs) (by kernel_rfl) rfl
    rw [← hc] at hJ
    have hq:0≤Int.tdiv (ssm fc g t0 t1 t2 t3 t4 t5 k) (gsm fc g w k)∧Int.tdiv (ssm fc g t0 t1 t2 t3 t4 t5 k) (gsm fc g w k)≤1000000000:=⟨Int.tdiv_nonneg s2.1 (by omega),by
      rw [Int.tdiv_eq_ediv_of_nonneg s2.1]
      have:=Int.ediv_le_self (gsm fc g w k) s2.1
      omega⟩
    exact con_at (das:=dasS lw fw lm fm n ls f r nc fc l0 l1 l2 l3 l4 l5 h0 h1 h2 h3 h4 h5 k g w t0 t1 t2 t3 t4 t5) (φ:=fun v _=>valP v (.int .i64 (Int.tdiv (ssm fc g t0 t1 t2 t3 t4 t5 k) (gsm fc g w k)))) drawnC noExt_ok (by kernel_rfl) (toS lw fw lm fm n ls f r nc fc l0 l1 l2 l3 l4 l5 h0 h1 h2 h3 h4 h5 k g w t0 t1 t2 t3 t4 t5) hJ (fr lw fw lm fm n ls f r nc fc l0 l1 l2 l3 l4 l5 h0 h1 h2 h3 h4 h5 k g w t0 t1 t2 t3 t4 t5 (gsm fc g w k) (ssm fc g t0 t1 t2 t3 t4 t5 k) z3 hq).ok
  · cases hv
end
end BL
end Go.Proofs.YtclagbonpachfaaGreat
