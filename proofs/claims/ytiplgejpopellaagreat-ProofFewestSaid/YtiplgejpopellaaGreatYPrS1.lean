/- Casks: the strength of a blend, as a contract: a range over a function, round by round. -/
import Derived.Test.YtiplgejpopellaaGreatYPrC4
import Derived.Test.YtiplgejpopellaaGreatYEe
set_option linter.all false
set_option linter.unusedSimpArgs false
set_option linter.unusedVariables false
namespace Go.Proofs.YtiplgejpopellaaGreat
namespace BL
open Go Go.Ev
set_option maxRecDepth 1000000
set_option maxHeartbeats 0
noncomputable section
variable (A:Nat) (B:Nat→Nat→Int) (I:Nat) (J:Nat→Nat→Int) (n:Nat) (M:Nat→Nat) (f:Nat→Nat→Nat→Int)
def zn (A:Nat) (B:Nat→Nat→Int) (I:Nat) (J:Nat→Nat→Int) (n:Nat) (M:Nat→Nat) (f:Nat→Nat→Nat→Int) (r:Int) (O:Nat) (E:Nat→Nat→Int) (l0 l1 l2 l3 l4 l5 h0 h1 h2 h3 h4 h5:Int) (k:Nat) (g:Nat→Nat→Int) (w:Int) (t0 t1 t2 t3 t4 t5:Int):List DA:=[.st [.sl 1 A B,.sl 1 I J,.rr 1 n M f,.i .i64 r,.sl 5 O E,.i .i64 l0,.i .i64 l1,.i .i64 l2,.i .i64 l3,.i .i64 l4,.i .i64 l5,.i .i64 h0,.i .i64 h1,.i .i64 h2,.i .i64 h3,.i .i64 h4,.i .i64 h5],.one (.sl 1 k g),.one (.i .i64 w),.st [.i .i64 t0,.i .i64 t1,.i .i64 t2,.i .i64 t3,.i .i64 t4,.i .i64 t5]]
def pS:List Nat:=[1,1,0,1,0]
def hS (A:Nat) (B:Nat→Nat→Int) (I:Nat) (J:Nat→Nat→Int) (n:Nat) (M:Nat→Nat) (f:Nat→Nat→Nat→Int) (r:Int) (O:Nat) (E:Nat→Nat→Int) (l0 l1 l2 l3 l4 l5 h0 h1 h2 h3 h4 h5:Int) (k:Nat) (g:Nat→Nat→Int) (w:Int) (t0 t1 t2 t3 t4 t5:Int):EH:=toH (qZ Tryz.prog az 300 74 pS (zn A B I J n M f r O E l0 l1 l2 l3 l4 l5 h0 h1 h2 h3 h4 h5 k g w t0 t1 t2 t3 t4 t5))
def aS (A:Nat) (B:Nat→Nat→Int) (I:Nat) (J:Nat→Nat→Int) (n:Nat) (M:Nat→Nat) (f:Nat→Nat→Nat→Int) (r:Int) (O:Nat) (E:Nat→Nat→Int) (l0 l1 l2 l3 l4 l5 h0 h1 h2 h3 h4 h5:Int) (k:Nat) (g:Nat→Nat→Int) (w:Int) (t0 t1 t2 t3 t4 t5:Int):EA:=toA (qZ Tryz.prog az 300 74 pS (zn A B I J n M f r O E l0 l1 l2 l3 l4 l5 h0 h1 h2 h3 h4 h5 k g w t0 t1 t2 t3 t4 t5))
def cS:Code:=sub pS (cZ Tryz.prog 74)
def lg (A:Nat) (B:Nat→Nat→Int) (I:Nat) (J:Nat→Nat→Int) (n:Nat) (M:Nat→Nat) (f:Nat→Nat→Nat→Int) (r:Int) (O:Nat) (E:Nat→Nat→Int) (l0 l1 l2 l3 l4 l5 h0 h1 h2 h3 h4 h5:Int) (k:Nat) (g:Nat→Nat→Int) (w:Int) (t0 t1 t2 t3 t4 t5:Int):EH:=Ap (hS A B I J n M f r O E l0 l1 l2 l3 l4 l5 h0 h1 h2 h3 h4 h5 k g w t0 t1 t2 t3 t4 t5) (aS A B I J n M f r O E l0 l1 l2 l3 l4 l5 h0 h1 h2 h3 h4 h5 k g w t0 t1 t2 t3 t4 t5) (CG cS) (BO cS) (BP cS)
def ES (A:Nat) (B:Nat→Nat→Int) (I:Nat) (J:Nat→Nat→Int) (n:Nat) (M:Nat→Nat) (f:Nat→Nat→Nat→Int) (r:Int) (O:Nat) (E:Nat→Nat→Int) (l0 l1 l2 l3 l4 l5 h0 h1 h2 h3 h4 h5:Int) (k:Nat) (g:Nat→Nat→Int) (w:Int) (t0 t1 t2 t3 t4 t5:Int):Env:=⟨lg A B I J n M f r O E l0 l1 l2 l3 l4 l5 h0 h1 h2 h3 h4 h5 k g w t0 t1 t2 t3 t4 t5,8,14,100,23⟩
def bP:Code:=cZ Tryz.prog 107
def b1:Code:=sub [1,0,0] bP
def lE:List V:=[.yld 13,.ptr 11 0,.ptr 10 0]
def lC (k:Nat) (g:Nat→Nat→Int) (i:Nat):List V:=[.yld 13,.ptr 10 0,.fz true 4 (ae .i64 g) k 1,.int .i64 k,.int .i64 i]
def gR (l:List V) (G S:Int):GS:=⟨l,[(8,[.int .i64 G]),(9,[.int .i64 S])],none⟩
def s3:List Nat:=[0,1,2]
def sC:List Nat:=[0,2,6,7,8]
theorem p0 (r:Int) (O:Nat) (E:Nat→Nat→Int) (l0 l1 l2 l3 l4 l5 h0 h1 h2 h3 h4 h5:Int) (k:Nat) (g:Nat→Nat→Int) (w:Int) (t0 t1 t2 t3 t4 t5:Int):VC (jQ Tryz.prog az 300 (ES A B I J n M f r O E l0 l1 l2 l3 l4 l5 h0 h1 h2 h3 h4 h5 k g w t0 t1 t2 t3 t4 t5) none (sub [0] bP) ⟨s3,gR lE w 0⟩ .normal ⟨sC,gR (lC k g 0) w 0⟩) .nil:=ai (((((V.yld 13:V)=V.yld 13)∧((((V.ptr 10 0):V)=(V.ptr 10 0))∧((((V.fz true 4 (ae .i64 g) k 1):V)=(V.fz true 4 (ae .i64 g) k 1))∧((((k:Int):Int)=(k:Int))∧((((0):Int)=0)∧True)))))∧(((((w:Int)=w)∧True)∧(((((0):Int)=0)∧True)∧True))∧(((((ES A B I J n M f r O E l0 l1 l2 l3 l4 l5 h0 h1 h2 h3 h4 h5 k g w t0 t1 t2 t3 t4 t5).base.objs.get
 (ES A B I J n M f r O E l0 l1 l2 l3 l4 l5 h0 h1 h2 h3 h4 h5 k g w t0 t1 t2 t3 t4 t5).L.succ.succ:Option EO)=(ES A B I J n M f r O E l0 l1 l2 l3 l4 l5 h0 h1 h2 h3 h4 h5 k g w t0 t1 t2 t3 t4 t5).base.objs.get
 (ES A B I J n M f r O E l0 l1 l2 l3 l4 l5 h0 h1 h2 h3 h4 h5 k g w t0 t1 t2 t3 t4 t5).L.succ.succ)∧((((ES A B I J n M f r O E l0 l1 l2 l3 l4 l5 h0 h1 h2 h3 h4 h5 k g w t0 t1 t2 t3 t4 t5).base.objs.get
 (ES A B I J n M f r O E l0 l1 l2 l3 l4 l5 h0 h1 h2 h3 h4 h5 k g w t0 t1 t2 t3 t4 t5).L.succ.succ.succ:Option EO)=(ES A B I J n M f r O E l0 l1 l2 l3 l4 l5 h0 h1 h2 h3 h4 h5 k g w t0 t1 t2 t3 t4 t5).base.objs.get
 (ES A B I J n M f r O E l0 l1 l2 l3 l4 l5 h0 h1 h2 h3 h4 h5 k g w t0 t1 t2 t3 t4 t5).L.succ.succ.succ)∧((((ES A B I J n M f r O E l0 l1 l2 l3 l4 l5 h0 h1 h2 h3 h4 h5 k g w t0 t1 t2 t3 t4 t5).base.objs.get
 (ES A B I J n M f r O E l0 l1 l2 l3 l4 l5 h0 h1 h2 h3 h4 h5 k g w t0 t1 t2 t3 t4 t5).L.succ.succ.succ.succ:Option EO)=(ES A B I J n M f r O E l0 l1 l2 l3 l4 l5 h0 h1 h2 h3 h4 h5 k g w t0 t1 t2 t3 t4 t5).base.objs.get
 (ES A B I J n M f r O E l0 l1 l2 l3 l4 l5 h0 h1 h2 h3 h4 h5 k g w t0 t1 t2 t3 t4 t5).L.succ.succ.succ.succ)∧((((ES A B I J n M f r O E l0 l1 l2 l3 l4 l5 h0 h1 h2 h3 h4 h5 k g w t0 t1 t2 t3 t4 t5).base.objs.get
 (ES A B I J n M f r O E l0 l1 l2 l3 l4 l5 h0 h1 h2 h3 h4 h5 k g w t0 t1 t2 t3 t4 t5).L.succ.succ.succ.succ.succ:Option EO)=(ES A B I J n M f r O E l0 l1 l2 l3 l4 l5 h0 h1 h2 h3 h4 h5 k g w t0 t1 t2 t3 t4 t5).base.objs.get
 (ES A B I J n M f r O E l0 l1 l2 l3 l4 l5 h0 h1 h2 h3 h4 h5 k g w t0 t1 t2 t3 t4 t5).L.succ.succ.succ.succ.succ)∧True))))∧True))))
theorem rd (r:Int) (O:Nat) (E:Nat→Nat→Int) (l0 l1 l2 l3 l4 l5 h0 h1 h2 h3 h4 h5:Int) (k:Nat) (g:Nat→Nat→Int) (w:Int) (t0 t1 t2 t3 t4 t5:Int) (G S:Int) (i:Nat) (k1:i<k) (k2:k≤1000) (k3:0≤g i 0∧g i 0<O) (k4:O≤6) (k5:1≤(E (Int.toNat (g i 0)) 0)∧(E (Int.toNat (g i 0)) 0)≤99) (hG:0≤G∧G≤1000000) (hS:0≤S∧S≤1000000000) (q0:g i 0=0→0≤(E (Int.toNat (g i 0)) 0)*t0∧(E (Int.toNat (g i 0)) 0)*t0≤1000000) (q1:g i 0=1→0≤(E (Int.toNat (g i 0)) 0)*t1∧(E (Int.toNat (g i 0)) 0)*t1≤1000000) (q2:g i 0=2→0≤(E (Int.toNat (g i 0)) 0)*t2∧(E (Int.toNat (g i 0)) 0)*t2≤1000000) (q3:g i 0=3→0≤(E (Int.toNat (g i 0)) 0)*t3∧(E (Int.toNat (g i 0)) 0)*t3≤1000000) (q4:g i 0=4→0≤(E (Int.toNat (g i 0)) 0)*t4∧(E (Int.toNat (g i 0)) 0)*t4≤1000000) (q5:g i 0=5→0≤(E (Int.toNat (g i 0)) 0)*t5∧(E (Int.toNat (g i 0)) 0)*t5≤1000000):VC (jQ Tryz.prog az 300 (ES A B I J n M f r O E l0 l1 l2 l3 l4 l5 h0 h1 h2 h3 h4 h5 k g w t0 t1 t2 t3 t4 t5) none b1 ⟨sC,gR (lC k g i) G S⟩ .normal ⟨sC,gR (lC k g (i+1)) (G+(E (Int.toNat (g i 0)) 0)) (S+(E (Int.toNat (g i 0)) 0)*(jH [t0,t1,t2,t3,t4,t5] (g i 0)))⟩) (.go 341 (.cs 0 (.go 325 .nil) (.cs 1 (.go 325 .nil) (.cs 2 (.go 325 .nil) (.cs 3 (.go 325 .nil) (.cs 4 (.go 325 .nil) (.cs 5 (.go 325 .nil) .nil))))))):=ai (((not (ak (k:Int) (i:Int)))=true∧((Nat.blt i k)=true∧((kE (g i 0) O)=true∧((small (G+(E (Int.toNat (g i 0)) 0)))=true∧((((g i 0):Int)=(0)∨((g i 0):Int)=(1)∨((g i 0):Int)=(2)∨((g i 0):Int)=(3)∨((g i 0):Int)=(4)∨((g i 0):Int)=(5)∨False)∧((((g i 0):Int)=(0)→((small ((E (Int.toNat (g i 0)) 0)*t0))=true∧((small (S+((E (Int.toNat (g i 0)) 0)*t0)))=true∧((small ((i:Int)+1))=true∧((((V.yld 13:V)=V.yld 13)∧((((V.ptr 10 0):V)=(V.ptr 10 0))∧((((V.fz true 4 (ae .i64 g) k 1):V)=(V.fz true 4 (ae .i64 g) k 1))∧((((k:Int):Int)=(k:Int))∧(((((i:Int)+1):Int)=(((i+1):Nat):Int))∧True)))))∧((((((G+(E (Int.toNat (g i 0)) 0)):Int)=(G+(E (Int.toNat (g i 0)) 0)))∧True)∧(((((S+((E (Int.toNat (g i 0)) 0)*t0)):Int)=(S+((E (Int.toNat (g i 0)) 0)*(jH [t0,t1,t2,t3,t4,t5] (g i 0)))))∧True)∧True))∧(((((ES A B I J n M f r O E l0 l1 l2 l3 l4 l5 h0 h1 h2 h3 h4 h5 k g w t0 t1 t2 t3 t4 t5).base.objs.get
 (ES A B I J n M f r O E l0 l1 l2 l3 l4 l5 h0 h1 h2 h3 h4 h5 k g w t0 t1 t2 t3 t4 t5).L.succ.succ:Option EO)=(ES A B I J n M f r O E l0 l1 l2 l3 l4 l5 h0 h1 h2 h3 h4 h5 k g w t0 t1 t2 t3 t4 t5).base.objs.get
 (ES A B I J n M f r O E l0 l1 l2 l3 l4 l5 h0 h1 h2 h3 h4 h5 k g w t0 t1 t2 t3 t4 t5).L.succ.succ)∧((((ES A B I J n M f r O E l0 l1 l2 l3 l4 l5 h0 h1 h2 h3 h4 h5 k g w t0 t1 t2 t3 t4 t5).base.objs.get
 (ES A B I J n M f r O E l0 l1 l2 l3 l4 l5 h0 h1 h2 h3 h4 h5 k g w t0 t1 t2 t3 t4 t5).L.succ.succ.succ:Option EO)=(ES A B I J n M f r O E l0 l1 l2 l3 l4 l5 h0 h1 h2 h3 h4 h5 k g w t0 t1 t2 t3 t4 t5).base.objs.get
 (ES A B I J n M f r O E l0 l1 l2 l3 l4 l5 h0 h1 h2 h3 h4 h5 k g w t0 t1 t2 t3 t4 t5).L.succ.succ.succ)∧((((ES A B I J n M f r O E l0 l1 l2 l3 l4 l5 h0 h1 h2 h3 h4 h5 k g w t0 t1 t2 t3 t4 t5).base.objs.get
 (ES A B I J n M f r O E l0 l1 l2 l3 l4 l5 h0 h1 h2 h3 h4 h5 k g w t0 t1 t2 t3 t4 t5).L.succ.succ.succ.succ:Option EO)=(ES A B I J n M f r O E l0 l1 l2 l3 l4 l5 h0 h1 h2 h3 h4 h5 k g w t0 t1 t2 t3 t4 t5).base.objs.get
 (ES A B I J n M f r O E l0 l1 l2 l3 l4 l5 h0 h1 h2 h3 h4 h5 k g w t0 t1 t2 t3 t4 t5).L.succ.succ.succ.succ)∧((((ES A B I J n M f r O E l0 l1 l2 l3 l4 l5 h0 h1 h2 h3 h4 h5 k g w t0 t1 t2 t3 t4 t5).base.objs.get
 (ES A B I J n M f r O E l0 l1 l2 l3 l4 l5 h0 h1 h2 h3 h4 h5 k g w t0 t1 t2 t3 t4 t5).L.succ.succ.succ.succ.succ:Option EO)=(ES A B I J n M f r O E l0 l1 l2 l3 l4 l5 h0 h1 h2 h3 h4 h5 k g w t0 t1 t2 t3 t4 t5).base.objs.get
 (ES A B I J n M f r O E l0 l1 l2 l3 l4 l5 h0 h1 h2 h3 h4 h5 k g w t0 t1 t2 t3 t4 t5).L.succ.succ.succ.succ.succ)∧True))))∧True)))))))∧(((g i 0):Int)=(1)→((small ((E (Int.toNat (g i 0)) 0)*t1))=true∧((small (S+((E (Int.toNat (g i 0)) 0)*t1)))=true∧((small (((i:Nat):Int)+(1)))=true∧((((V.yld 13:V)=V.yld 13)∧((((V.ptr 10 0):V)=(V.ptr 10 0))∧((((V.fz true 4 (ae .i64 g) k 1):V)=(V.fz true 4 (ae .i64 g) k 1))∧(((((k:Nat):Int):Int)=((k:Nat):Int))∧((((((i:Nat):Int)+(1)):Int)=(((i+1):Nat):Int))∧True)))))∧((((((G+(E (Int.toNat (g i 0)) 0)):Int)=(G+(E (Int.toNat (g i 0)) 0)))∧True)∧(((((S+((E (Int.toNat (g i 0)) 0)*t1)):Int)=(S+((E (Int.toNat (g i 0)) 0)*(jH [t0,t1,t2,t3,t4,t5] (g i 0)))))∧True)∧True))∧(((((ES A B I J n M f r O E l0 l1 l2 l3 l4 l5 h0 h1 h2 h3 h4 h5 k g w t0 t1 t2 t3 t4 t5).base.objs.get
 (ES A B I J n M f r O E l0 l1 l2 l3 l4 l5 h0 h1 h2 h3 h4 h5 k g w t0 t1 t2 t3 t4 t5).L.succ.succ:Option EO)=(ES A B I J n M f r O E l0 l1 l2 l3 l4 l5 h0 h1 h2 h3 h4 h5 k g w t0 t1 t2 t3 t4 t5).base.objs.get
 (ES A B I J n M f r O E l0 l1 l2 l3 l4 l5 h0 h1 h2 h3 h4 h5 k g w t0 t1 t2 t3 t4 t5).L.succ.succ)∧((((ES A B I J n M f r O E l0 l1 l2 l3 l4 l5 h0 h1 h2 h3 h4 h5 k g w t0 t1 t2 t3 t4 t5).base.objs.get
 (ES A B I J n M f r O E l0 l1 l2 l3 l4 l5 h0 h1 h2 h3 h4 h5 k g w t0 t1 t2 t3 t4 t5).L.succ.succ.succ:Option EO)=(ES A B I J n M f r O E l0 l1 l2 l3 l4 l5 h0 h1 h2 h3 h4 h5 k g w t0 t1 t2 t3 t4 t5).base.objs.get
 (ES A B I J n M f r O E l0 l1 l2 l3 l4 l5 h0 h1 h2 h3 h4 h5 k g w t0 t1 t2 t3 t4 t5).L.succ.succ.succ)∧((((ES A B I J n M f r O E l0 l1 l2 l3 l4 l5 h0 h1 h2 h3 h4 h5 k g w t0 t1 t2 t3 t4 t5).base.objs.get
 (ES A B I J n M f r O E l0 l1 l2 l3 l4 l5 h0 h1 h2 h3 h4 h5 k g w t0 t1 t2 t3 t4 t5).L.succ.succ.succ.succ:Option EO)=(ES A B I J n M f r O E l0 l1 l2 l3 l4 l5 h0 h1 h2 h3 h4 h5 k g w t0 t1 t2 t3 t4 t5).base.objs.get
 (ES A B I J n M f r O E l0 l1 l2 l3 l4 l5 h0 h1 h2 h3 h4 h5 k g w t0 t1 t2 t3 t4 t5).L.succ.succ.succ.succ)∧((((ES A B I J n M f r O E l0 l1 l2 l3 l4 l5 h0 h1 h2 h3 h4 h5 k g w t0 t1 t2 t3 t4 t5).base.objs.get
 (ES A B I J n M f r O E l0 l1 l2 l3 l4 l5 h0 h1 h2 h3 h4 h5 k g w t0 t1 t2 t3 t4 t5).L.succ.succ.succ.succ.succ:Option EO)=(ES A B I J n M f r O E l0 l1 l2 l3 l4 l5 h0 h1 h2 h3 h4 h5 k g w t0 t1 t2 t3 t4 t5).base.objs.get
 (ES A B I J n M f r O E l0 l1 l2 l3 l4 l5 h0 h1 h2 h3 h4 h5 k g w t0 t1 t2 t3 t4 t5).L.succ.succ.succ.succ.succ)∧True))))∧True)))))))∧(((g i 0):Int)=(2)→((small ((E (Int.toNat (g i 0)) 0)*t2))=true∧((small (S+((E (Int.toNat (g i 0)) 0)*t2)))=true∧((small (((i:Nat):Int)+(1)))=true∧((((V.yld 13:V)=V.yld 13)∧((((V.ptr 10 0):V)=(V.ptr 10 0))∧((((V.fz true 4 (ae .i64 g) k 1):V)=(V.fz true 4 (ae .i64 g) k 1))∧(((((k:Nat):Int):Int)=((k:Nat):Int))∧((((((i:Nat):Int)+(1)):Int)=(((i+1):Nat):Int))∧True)))))∧((((((G+(E (Int.toNat (g i 0)) 0)):Int)=(G+(E (Int.toNat (g i 0)) 0)))∧True)∧(((((S+((E (Int.toNat (g i 0)) 0)*t2)):Int)=(S+((E (Int.toNat (g i 0)) 0)*(jH [t0,t1,t2,t3,t4,t5] (g i 0)))))∧True)∧True))∧(((((ES A B I J n M f r O E l0 l1 l2 l3 l4 l5 h0 h1 h2 h3 h4 h5 k g w t0 t1 t2 t3 t4 t5).base.objs.get
 (ES A B I J n M f r O E l0 l1 l2 l3 l4 l5 h0 h1 h2 h3 h4 h5 k g w t0 t1 t2 t3 t4 t5).L.succ.succ:Option EO)=(ES A B I J n M f r O E l0 l1 l2 l3 l4 l5 h0 h1 h2 h3 h4 h5 k g w t0 t1 t2 t3 t4 t5).base.objs.get
 (ES A B I J n M f r O E l0 l1 l2 l3 l4 l5 h0 h1 h2 h3 h4 h5 k g w t0 t1 t2 t3 t4 t5).L.succ.succ)∧((((ES A B I J n M f r O E l0 l1 l2 l3 l4 l5 h0 h1 h2 h3 h4 h5 k g w t0 t1 t2 t3 t4 t5).base.objs.get
 (ES A B I J n M f r O E l0 l1 l2 l3 l4 l5 h0 h1 h2 h3 h4 h5 k g w t0 t1 t2 t3 t4 t5).L.succ.succ.succ:Option EO)=(ES A B I J n M f r O E l0 l1 l2 l3 l4 l5 h0 h1 h2 h3 h4 h5 k g w t0 t1 t2 t3 t4 t5).base.objs.get
 (ES A B I J n M f r O E l0 l1 l2 l3 l4 l5 h0 h1 h2 h3 h4 h5 k g w t0 t1 t2 t3 t4 t5).L.succ.succ.succ)∧((((ES A B I J n M f r O E l0 l1 l2 l3 l4 l5 h0 h1 h2 h3 h4 h5 k g w t0 t1 t2 t3 t4 t5).base.objs.get
 (ES A B I J n M f r O E l0 l1 l2 l3 l4 l5 h0 h1 h2 h3 h4 h5 k g w t0 t1 t2 t3 t4 t5).L.succ.succ.succ.succ:Option EO)=(ES A B I J n M f r O E l0 l1 l2 l3 l4 l5 h0 h1 h2 h3 h4 h5 k g w t0 t1 t2 t3 t4 t5).base.objs.get
 (ES A B I J n M f r O E l0 l1 l2 l3 l4 l5 h0 h1 h2 h3 h4 h5 k g w t0 t1 t2 t3 t4 t5).L.succ.succ.succ.succ)∧((((ES A B I J n M f r O E l0 l1 l2 l3 l4 l5 h0 h1 h2 h3 h4 h5 k g w t0 t1 t2 t3 t4 t5).base.objs.get
 (ES A B I J n M f r O E l0 l1 l2 l3 l4 l5 h0 h1 h2 h3 h4 h5 k g w t0 t1 t2 t3 t4 t5).L.succ.succ.succ.succ.succ:Option EO)=(ES A B I J n M f r O E l0 l1 l2 l3 l4 l5 h0 h1 h2 h3 h4 h5 k g w t0 t1 t2 t3 t4 t5).base.objs.get
 (ES A B I J n M f r O E l0 l1 l2 l3 l4 l5 h0 h1 h2 h3 h4 h5 k g w t0 t1 t2 t3 t4 t5).L.succ.succ.succ.succ.succ)∧True))))∧True)))))))∧(((g i 0):Int)=(3)→((small ((E (Int.toNat (g i 0)) 0)*t3))=true∧((small (S+((E (Int.toNat (g i 0)) 0)*t3)))=true∧((small (((i:Nat):Int)+(1)))=true∧((((V.yld 13:V)=V.yld 13)∧((((V.ptr 10 0):V)=(V.ptr 10 0))∧((((V.fz true 4 (ae .i64 g) k 1):V)=(V.fz true 4 (ae .i64 g) k 1))∧(((((k:Nat):Int):Int)=((k:Nat):Int))∧((((((i:Nat):Int)+(1)):Int)=(((i+1):Nat):Int))∧True)))))∧((((((G+(E (Int.toNat (g i 0)) 0)):Int)=(G+(E (Int.toNat (g i 0)) 0)))∧True)∧(((((S+((E (Int.toNat (g i 0)) 0)*t3)):Int)=(S+((E (Int.toNat (g i 0)) 0)*(jH [t0,t1,t2,t3,t4,t5] (g i 0)))))∧True)∧True))∧(((((ES A B I J n M f r O E l0 l1 l2 l3 l4 l5 h0 h1 h2 h3 h4 h5 k g w t0 t1 t2 t3 t4 t5).base.objs.get
 (ES A B I J n M f r O E l0 l1 l2 l3 l4 l5 h0 h1 h2 h3 h4 h5 k g w t0 t1 t2 t3 t4 t5).L.succ.succ:Option EO)=(ES A B I J n M f r O E l0 l1 l2 l3 l4 l5 h0 h1 h2 h3 h4 h5 k g w t0 t1 t2 t3 t4 t5).base.objs.get
 (ES A B I J n M f r O E l0 l1 l2 l3 l4 l5 h0 h1 h2 h3 h4 h5 k g w t0 t1 t2 t3 t4 t5).L.succ.succ)∧((((ES A B I J n M f r O E l0 l1 l2 l3 l4 l5 h0 h1 h2 h3 h4 h5 k g w t0 t1 t2 t3 t4 t5).base.objs.get
 (ES A B I J n M f r O E l0 l1 l2 l3 l4 l5 h0 h1 h2 h3 h4 h5 k g w t0 t1 t2 t3 t4 t5).L.succ.succ.succ:Option EO)=(ES A B I J n M f r O E l0 l1 l2 l3 l4 l5 h0 h1 h2 h3 h4 h5 k g w t0 t1 t2 t3 t4 t5).base.objs.get
 (ES A B I J n M f r O E l0 l1 l2 l3 l4 l5 h0 h1 h2 h3 h4 h5 k g w t0 t1 t2 t3 t4 t5).L.succ.succ.succ)∧((((ES A B I J n M f r O E l0 l1 l2 l3 l4 l5 h0 h1 h2 h3 h4 h5 k g w t0 t1 t2 t3 t4 t5).base.objs.get
 (ES A B I J n M f r O E l0 l1 l2 l3 l4 l5 h0 h1 h2 h3 h4 h5 k g w t0 t1 t2 t3 t4 t5).L.succ.succ.succ.succ:Option EO)=(ES A B I J n M f r O E l0 l1 l2 l3 l4 l5 h0 h1 h2 h3 h4 h5 k g w t0 t1 t2 t3 t4 t5).base.objs.get
 (ES A B I J n M f r O E l0 l1 l2 l3 l4 l5 h0 h1 h2 h3 h4 h5 k g w t0 t1 t2 t3 t4 t5).L.succ.succ.succ.succ)∧((((ES A B I J n M f r O E l0 l1 l2 l3 l4 l5 h0 h1 h2 h3 h4 h5 k g w t0 t1 t2 t3 t4 t5).base.objs.get
 (ES A B I J n M f r O E l0 l1 l2 l3 l4 l5 h0 h1 h2 h3 h4 h5 k g w t0 t1 t2 t3 t4 t5).L.succ.succ.succ.succ.succ:Option EO)=(ES A B I J n M f r O E l0 l1 l2 l3 l4 l5 h0 h1 h2 h3 h4 h5 k g w t0 t1 t2 t3 t4 t5).base.objs.get
 (ES A B I J n M f r O E l0 l1 l2 l3 l4 l5 h0 h1 h2 h3 h4 h5 k g w t0 t1 t2 t3 t4 t5).L.succ.succ.succ.succ.succ)∧True))))∧True)))))))∧(((g i 0):Int)=(4)→((small ((E (Int.toNat (g i 0)) 0)*t4))=true∧((small (S+((E (Int.toNat (g i 0)) 0)*t4)))=true∧((small (((i:Nat):Int)+(1)))=true∧((((V.yld 13:V)=V.yld 13)∧((((V.ptr 10 0):V)=(V.ptr 10 0))∧((((V.fz true 4 (ae .i64 g) k 1):V)=(V.fz true 4 (ae .i64 g) k 1))∧(((((k:Nat):Int):Int)=((k:Nat):Int))∧((((((i:Nat):Int)+(1)):Int)=(((i+1):Nat):Int))∧True)))))∧((((((G+(E (Int.toNat (g i 0)) 0)):Int)=(G+(E (Int.toNat (g i 0)) 0)))∧True)∧(((((S+((E (Int.toNat (g i 0)) 0)*t4)):Int)=(S+((E (Int.toNat (g i 0)) 0)*(jH [t0,t1,t2,t3,t4,t5] (g i 0)))))∧True)∧True))∧(((((ES A B I J n M f r O E l0 l1 l2 l3 l4 l5 h0 h1 h2 h3 h4 h5 k g w t0 t1 t2 t3 t4 t5).base.objs.get
 (ES A B I J n M f r O E l0 l1 l2 l3 l4 l5 h0 h1 h2 h3 h4 h5 k g w t0 t1 t2 t3 t4 t5).L.succ.succ:Option EO)=(ES A B I J n M f r O E l0 l1 l2 l3 l4 l5 h0 h1 h2 h3 h4 h5 k g w t0 t1 t2 t3 t4 t5).base.objs.get
 (ES A B I J n M f r O E l0 l1 l2 l3 l4 l5 h0 h1 h2 h3 h4 h5 k g w t0 t1 t2 t3 t4 t5).L.succ.succ)∧((((ES A B I J n M f r O E l0 l1 l2 l3 l4 l5 h0 h1 h2 h3 h4 h5 k g w t0 t1 t2 t3 t4 t5).base.objs.get
 (ES A B I J n M f r O E l0 l1 l2 l3 l4 l5 h0 h1 h2 h3 h4 h5 k g w t0 t1 t2 t3 t4 t5).L.succ.succ.succ:Option EO)=(ES A B I J n M f r O E l0 l1 l2 l3 l4 l5 h0 h1 h2 h3 h4 h5 k g w t0 t1 t2 t3 t4 t5).base.objs.get
 (ES A B I J n M f r O E l0 l1 l2 l3 l4 l5 h0 h1 h2 h3 h4 h5 k g w t0 t1 t2 t3 t4 t5).L.succ.succ.succ)∧((((ES A B I J n M f r O E l0 l1 l2 l3 l4 l5 h0 h1 h2 h3 h4 h5 k g w t0 t1 t2 t3 t4 t5).base.objs.get
 (ES A B I J n M f r O E l0 l1 l2 l3 l4 l5 h0 h1 h2 h3 h4 h5 k g w t0 t1 t2 t3 t4 t5).L.succ.succ.succ.succ:Option EO)=(ES A B I J n M f r O E l0 l1 l2 l3 l4 l5 h0 h1 h2 h3 h4 h5 k g w t0 t1 t2 t3 t4 t5).base.objs.get
 (ES A B I J n M f r O E l0 l1 l2 l3 l4 l5 h0 h1 h2 h3 h4 h5 k g w t0 t1 t2 t3 t4 t5).L.succ.succ.succ.succ)∧((((ES A B I J n M f r O E l0 l1 l2 l3 l4 l5 h0 h1 h2 h3 h4 h5 k g w t0 t1 t2 t3 t4 t5).base.objs.get
 (ES A B I J n M f r O E l0 l1 l2 l3 l4 l5 h0 h1 h2 h3 h4 h5 k g w t0 t1 t2 t3 t4 t5).L.succ.succ.succ.succ.succ:Option EO)=(ES A B I J n M f r O E l0 l1 l2 l3 l4 l5 h0 h1 h2 h3 h4 h5 k g w t0 t1 t2 t3 t4 t5).base.objs.get
 (ES A B I J n M f r O E l0 l1 l2 l3 l4 l5 h0 h1 h2 h3 h4 h5 k g w t0 t1 t2 t3 t4 t5).L.succ.succ.succ.succ.succ)∧True))))∧True)))))))∧(((g i 0):Int)=(5)→((small ((E (Int.toNat (g i 0)) 0)*t5))=true∧((small (S+((E (Int.toNat (g i 0)) 0)*t5)))=true∧((small (((i:Nat):Int)+(1)))=true∧((((V.yld 13:V)=V.yld 13)∧((((V.ptr 10 0):V)=(V.ptr 10 0))∧((((V.fz true 4 (ae .i64 g) k 1):V)=(V.fz true 4 (ae .i64 g) k 1))∧(((((k:Nat):Int):Int)=((k:Nat):Int))∧((((((i:Nat):Int)+(1)):Int)=(((i+1):Nat):Int))∧True)))))∧((((((G+(E (Int.toNat (g i 0)) 0)):Int)=(G+(E (Int.toNat (g i 0)) 0)))∧True)∧(((((S+((E (Int.toNat (g i 0)) 0)*t5)):Int)=(S+((E (Int.toNat (g i 0)) 0)*(jH [t0,t1,t2,t3,t4,t5] (g i 0)))))∧True)∧True))∧(((((ES A B I J n M f r O E l0 l1 l2 l3 l4 l5 h0 h1 h2 h3 h4 h5 k g w t0 t1 t2 t3 t4 t5).base.objs.get
 (ES A B I J n M f r O E l0 l1 l2 l3 l4 l5 h0 h1 h2 h3 h4 h5 k g w t0 t1 t2 t3 t4 t5).L.succ.succ:Option EO)=(ES A B I J n M f r O E l0 l1 l2 l3 l4 l5 h0 h1 h2 h3 h4 h5 k g w t0 t1 t2 t3 t4 t5).base.objs.get
 (ES A B I J n M f r O E l0 l1 l2 l3 l4 l5 h0 h1 h2 h3 h4 h5 k g w t0 t1 t2 t3 t4 t5).L.succ.succ)∧((((ES A B I J n M f r O E l0 l1 l2 l3 l4 l5 h0 h1 h2 h3 h4 h5 k g w t0 t1 t2 t3 t4 t5).base.objs.get
 (ES A B I J n M f r O E l0 l1 l2 l3 l4 l5 h0 h1 h2 h3 h4 h5 k g w t0 t1 t2 t3 t4 t5).L.succ.succ.succ:Option EO)=(ES A B I J n M f r O E l0 l1 l2 l3 l4 l5 h0 h1 h2 h3 h4 h5 k g w t0 t1 t2 t3 t4 t5).base.objs.get
 (ES A B I J n M f r O E l0 l1 l2 l3 l4 l5 h0 h1 h2 h3 h4 h5 k g w t0 t1 t2 t3 t4 t5).L.succ.succ.succ)∧((((ES A B I J n M f r O E l0 l1 l2 l3 l4 l5 h0 h1 h2 h3 h4 h5 k g w t0 t1 t2 t3 t4 t5).base.objs.get
 (ES A B I J n M f r O E l0 l1 l2 l3 l4 l5 h0 h1 h2 h3 h4 h5 k g w t0 t1 t2 t3 t4 t5).L.succ.succ.succ.succ:Option EO)=(ES A B I J n M f r O E l0 l1 l2 l3 l4 l5 h0 h1 h2 h3 h4 h5 k g w t0 t1 t2 t3 t4 t5).base.objs.get
 (ES A B I J n M f r O E l0 l1 l2 l3 l4 l5 h0 h1 h2 h3 h4 h5 k g w t0 t1 t2 t3 t4 t5).L.succ.succ.succ.succ)∧((((ES A B I J n M f r O E l0 l1 l2 l3 l4 l5 h0 h1 h2 h3 h4 h5 k g w t0 t1 t2 t3 t4 t5).base.objs.get
 (ES A B I J n M f r O E l0 l1 l2 l3 l4 l5 h0 h1 h2 h3 h4 h5 k g w t0 t1 t2 t3 t4 t5).L.succ.succ.succ.succ.succ:Option EO)=(ES A B I J n M f r O E l0 l1 l2 l3 l4 l5 h0 h1 h2 h3 h4 h5 k g w t0 t1 t2 t3 t4 t5).base.objs.get
 (ES A B I J n M f r O E l0 l1 l2 l3 l4 l5 h0 h1 h2 h3 h4 h5 k g w t0 t1 t2 t3 t4 t5).L.succ.succ.succ.succ.succ)∧True))))∧True)))))))∧True))))))) (q:=by
 (repeat' (first | exact True.intro | (with_reducible assumption) | refine And.intro ?_ ?_ | refine aI ?_ ?_ | intro hh));all_goals (first | (with_reducible assumption) | (with_reducible rfl) | omega | (rw [hh];rfl) | (exact Pz)))
theorem rx (r:Int) (O:Nat) (E:Nat→Nat→Int) (l0 l1 l2 l3 l4 l5 h0 h1 h2 h3 h4 h5:Int) (k:Nat) (g:Nat→Nat→Int) (w:Int) (t0 t1 t2 t3 t4 t5:Int) (G S:Int) (i:Nat) (k1:¬ i<k):VC (jQ Tryz.prog az 300 (ES A B I J n M f r O E l0 l1 l2 l3 l4 l5 h0 h1 h2 h3 h4 h5 k g w t0 t1 t2 t3 t4 t5) none b1 ⟨sC,gR (lC k g i) G S⟩ (.exit 0) ⟨[],gR [] G S⟩) (.go 6 .nil):=ai (((not (ak (k:Int) (i:Int)))=false∧(True∧(((((G:Int)=G)∧True)∧((((S:Int)=S)∧True)∧True))∧(((((ES A B I J n M f r O E l0 l1 l2 l3 l4 l5 h0 h1 h2 h3 h4 h5 k g w t0 t1 t2 t3 t4 t5).base.objs.get
 (ES A B I J n M f r O E l0 l1 l2 l3 l4 l5 h0 h1 h2 h3 h4 h5 k g w t0 t1 t2 t3 t4 t5).L.succ.succ:Option EO)=(ES A B I J n M f r O E l0 l1 l2 l3 l4 l5 h0 h1 h2 h3 h4 h5 k g w t0 t1 t2 t3 t4 t5).base.objs.get
 (ES A B I J n M f r O E l0 l1 l2 l3 l4 l5 h0 h1 h2 h3 h4 h5 k g w t0 t1 t2 t3 t4 t5).L.succ.succ)∧((((ES A B I J n M f r O E l0 l1 l2 l3 l4 l5 h0 h1 h2 h3 h4 h5 k g w t0 t1 t2 t3 t4 t5).base.objs.get
 (ES A B I J n M f r O E l0 l1 l2 l3 l4 l5 h0 h1 h2 h3 h4 h5 k g w t0 t1 t2 t3 t4 t5).L.succ.succ.succ:Option EO)=(ES A B I J n M f r O E l0 l1 l2 l3 l4 l5 h0 h1 h2 h3 h4 h5 k g w t0 t1 t2 t3 t4 t5).base.objs.get
 (ES A B I J n M f r O E l0 l1 l2 l3 l4 l5 h0 h1 h2 h3 h4 h5 k g w t0 t1 t2 t3 t4 t5).L.succ.succ.succ)∧((((ES A B I J n M f r O E l0 l1 l2 l3 l4 l5 h0 h1 h2 h3 h4 h5 k g w t0 t1 t2 t3 t4 t5).base.objs.get
 (ES A B I J n M f r O E l0 l1 l2 l3 l4 l5 h0 h1 h2 h3 h4 h5 k g w t0 t1 t2 t3 t4 t5).L.succ.succ.succ.succ:Option EO)=(ES A B I J n M f r O E l0 l1 l2 l3 l4 l5 h0 h1 h2 h3 h4 h5 k g w t0 t1 t2 t3 t4 t5).base.objs.get
 (ES A B I J n M f r O E l0 l1 l2 l3 l4 l5 h0 h1 h2 h3 h4 h5 k g w t0 t1 t2 t3 t4 t5).L.succ.succ.succ.succ)∧((((ES A B I J n M f r O E l0 l1 l2 l3 l4 l5 h0 h1 h2 h3 h4 h5 k g w t0 t1 t2 t3 t4 t5).base.objs.get
 (ES A B I J n M f r O E l0 l1 l2 l3 l4 l5 h0 h1 h2 h3 h4 h5 k g w t0 t1 t2 t3 t4 t5).L.succ.succ.succ.succ.succ:Option EO)=(ES A B I J n M f r O E l0 l1 l2 l3 l4 l5 h0 h1 h2 h3 h4 h5 k g w t0 t1 t2 t3 t4 t5).base.objs.get
 (ES A B I J n M f r O E l0 l1 l2 l3 l4 l5 h0 h1 h2 h3 h4 h5 k g w t0 t1 t2 t3 t4 t5).L.succ.succ.succ.succ.succ)∧True))))∧True)))))
theorem en (r:Int) (O:Nat) (E:Nat→Nat→Int) (l0 l1 l2 l3 l4 l5 h0 h1 h2 h3 h4 h5:Int) (k:Nat) (g:Nat→Nat→Int) (w:Int) (t0 t1 t2 t3 t4 t5:Int):VC (D.leaf ((ES A B I J n M f r O E l0 l1 l2 l3 l4 l5 h0 h1 h2 h3 h4 h5 k g w t0 t1 t2 t3 t4 t5).pack ⟨s3,gR lE w 0⟩ ⟨ja false lE,23,[]⟩ (lowTo (lg A B I J n M f r O E l0 l1 l2 l3 l4 l5 h0 h1 h2 h3 h4 h5 k g w t0 t1 t2 t3 t4 t5) big))) .nil:=ai (((((V.yld 13:V)=V.yld 13)∧((((V.ptr 11 0):V)=(V.ptr 11 0))∧((((V.ptr 10 0):V)=(V.ptr 10 0))∧True)))∧(((((w:Int)=w)∧True)∧(((((0):Int)=0)∧True)∧True))∧(((((ES A B I J n M f r O E l0 l1 l2 l3 l4 l5 h0 h1 h2 h3 h4 h5 k g w t0 t1 t2 t3 t4 t5).base.objs.get
 (ES A B I J n M f r O E l0 l1 l2 l3 l4 l5 h0 h1 h2 h3 h4 h5 k g w t0 t1 t2 t3 t4 t5).L.succ.succ:Option EO)=(ES A B I J n M f r O E l0 l1 l2 l3 l4 l5 h0 h1 h2 h3 h4 h5 k g w t0 t1 t2 t3 t4 t5).base.objs.get
 (ES A B I J n M f r O E l0 l1 l2 l3 l4 l5 h0 h1 h2 h3 h4 h5 k g w t0 t1 t2 t3 t4 t5).L.succ.succ)∧((((ES A B I J n M f r O E l0 l1 l2 l3 l4 l5 h0 h1 h2 h3 h4 h5 k g w t0 t1 t2 t3 t4 t5).base.objs.get
 (ES A B I J n M f r O E l0 l1 l2 l3 l4 l5 h0 h1 h2 h3 h4 h5 k g w t0 t1 t2 t3 t4 t5).L.succ.succ.succ:Option EO)=(ES A B I J n M f r O E l0 l1 l2 l3 l4 l5 h0 h1 h2 h3 h4 h5 k g w t0 t1 t2 t3 t4 t5).base.objs.get
 (ES A B I J n M f r O E l0 l1 l2 l3 l4 l5 h0 h1 h2 h3 h4 h5 k g w t0 t1 t2 t3 t4 t5).L.succ.succ.succ)∧((((ES A B I J n M f r O E l0 l1 l2 l3 l4 l5 h0 h1 h2 h3 h4 h5 k g w t0 t1 t2 t3 t4 t5).base.objs.get
 (ES A B I J n M f r O E l0 l1 l2 l3 l4 l5 h0 h1 h2 h3 h4 h5 k g w t0 t1 t2 t3 t4 t5).L.succ.succ.succ.succ:Option EO)=(ES A B I J n M f r O E l0 l1 l2 l3 l4 l5 h0 h1 h2 h3 h4 h5 k g w t0 t1 t2 t3 t4 t5).base.objs.get
 (ES A B I J n M f r O E l0 l1 l2 l3 l4 l5 h0 h1 h2 h3 h4 h5 k g w t0 t1 t2 t3 t4 t5).L.succ.succ.succ.succ)∧((((ES A B I J n M f r O E l0 l1 l2 l3 l4 l5 h0 h1 h2 h3 h4 h5 k g w t0 t1 t2 t3 t4 t5).base.objs.get
 (ES A B I J n M f r O E l0 l1 l2 l3 l4 l5 h0 h1 h2 h3 h4 h5 k g w t0 t1 t2 t3 t4 t5).L.succ.succ.succ.succ.succ:Option EO)=(ES A B I J n M f r O E l0 l1 l2 l3 l4 l5 h0 h1 h2 h3 h4 h5 k g w t0 t1 t2 t3 t4 t5).base.objs.get
 (ES A B I J n M f r O E l0 l1 l2 l3 l4 l5 h0 h1 h2 h3 h4 h5 k g w t0 t1 t2 t3 t4 t5).L.succ.succ.succ.succ.succ)∧True))))∧True))))
def r1 (A:Nat) (B:Nat→Nat→Int) (I:Nat) (J:Nat→Nat→Int) (n:Nat) (M:Nat→Nat) (f:Nat→Nat→Nat→Int) (r:Int) (O:Nat) (E:Nat→Nat→Int) (l0 l1 l2 l3 l4 l5 h0 h1 h2 h3 h4 h5:Int) (k:Nat) (g:Nat→Nat→Int) (w:Int) (t0 t1 t2 t3 t4 t5:Int) (G S:Int):Res := .normal ⟨(aS A B I J n M f r O E l0 l1 l2 l3 l4 l5 h0 h1 h2 h3 h4 h5 k g w t0 t1 t2 t3 t4 t5).tm,(aS A B I J n M f r O E l0 l1 l2 l3 l4 l5 h0 h1 h2 h3 h4 h5 k g w t0 t1 t2 t3 t4 t5).n,(hS A B I J n M f r O E l0 l1 l2 l3 l4 l5 h0 h1 h2 h3 h4 h5 k g w t0 t1 t2 t3 t4 t5).next::(aS A B I J n M f r O E l0 l1 l2 l3 l4 l5 h0 h1 h2 h3 h4 h5 k g w t0 t1 t2 t3 t4 t5).df⟩ (fH (pY (lg A B I J n M f r O E l0 l1 l2 l3 l4 l5 h0 h1 h2 h3 h4 h5 k g w t0 t1 t2 t3 t4 t5) 100 (dJ 8 (lg A B I J n M f r O E l0 l1 l2 l3 l4 l5 h0 h1 h2 h3 h4 h5 k g w t0 t1 t2 t3 t4 t5).low) (gR [] G S)) (Nat.succ (hS A B I J n M f r O E l0 l1 l2 l3 l4 l5 h0 h1 h2 h3 h4 h5 k g w t0 t1 t2 t3 t4 t5).next) .exhausted none (aS A B I J n M f r O E l0 l1 l2 l3 l4 l5 h0 h1 h2 h3 h4 h5 k g w t0 t1 t2 t3 t4 t5).tm (aS A B I J n M f r O E l0 l1 l2 l3 l4 l5 h0 h1 h2 h3 h4 h5 k g w t0 t1 t2 t3 t4 t5).n (CG cS) (BO cS) (BP cS) (hS A B I J n M f r O E l0 l1 l2 l3 l4 l5 h0 h1 h2 h3 h4 h5 k g w t0 t1 t2 t3 t4 t5).next)
theorem fr (r:Int) (O:Nat) (E:Nat→Nat→Int) (l0 l1 l2 l3 l4 l5 h0 h1 h2 h3 h4 h5:Int) (k:Nat) (g:Nat→Nat→Int) (w:Int) (t0 t1 t2 t3 t4 t5:Int) (G S:Int) (hG:1≤G) (hv:0≤Int.tdiv S G∧Int.tdiv S G≤1000000000):VC (iM Tryz.prog kD az (.leaf False) 300 none pS (cZ Tryz.prog 74) (r1 A B I J n M f r O E l0 l1 l2 l3 l4 l5 h0 h1 h2 h3 h4 h5 k g w t0 t1 t2 t3 t4 t5 G S) (fun r => .leaf (resD Tryz.prog 74 (fun v _=>dB v (.int .i64 (Int.tdiv S G))) r))) (.go 22 .nil):=ai (((bY G 0)=false∧((small (Int.tdiv S G))=true∧(((Int.tdiv S G):Int)=(Int.tdiv S G)))))
theorem toS (A:Nat) (B:Nat→Nat→Int) (I:Nat) (J:Nat→Nat→Int) (n:Nat) (M:Nat→Nat) (f:Nat→Nat→Nat→Int) (r:Int) (O:Nat) (E:Nat→Nat→Int) (l0 l1 l2 l3 l4 l5 h0 h1 h2 h3 h4 h5:Int) (k:Nat) (g:Nat→Nat→Int) (w:Int) (t0 t1 t2 t3 t4 t5:Int):qZ Tryz.prog az 300 74 pS (zn A B I J n M f r O E l0 l1 l2 l3 l4 l5 h0 h1 h2 h3 h4 h5 k g w t0 t1 t2 t3 t4 t5)=some (aS A B I J n M f r O E l0 l1 l2 l3 l4 l5 h0 h1 h2 h3 h4 h5 k g w t0 t1 t2 t3 t4 t5,hS A B I J n M f r O E l0 l1 l2 l3 l4 l5 h0 h1 h2 h3 h4 h5 k g w t0 t1 t2 t3 t4 t5):=by kernel_rfl
theorem okG (A:Nat) (B:Nat→Nat→Int) (I:Nat) (J:Nat→Nat→Int) (n:Nat) (M:Nat→Nat) (f:Nat→Nat→Nat→Int) (r:Int) (O:Nat) (E:Nat→Nat→Int) (l0 l1 l2 l3 l4 l5 h0 h1 h2 h3 h4 h5:Int) (k:Nat) (g:Nat→Nat→Int) (w:Int) (t0 t1 t2 t3 t4 t5:Int) {ts:List Nat} {l:List V} {G S:Int} (h:(ES A B I J n M f r O E l0 l1 l2 l3 l4 l5 h0 h1 h2 h3 h4 h5 k g w t0 t1 t2 t3 t4 t5).okB ⟨ts,gR l G S⟩=true):(ES A B I J n M f r O E l0 l1 l2 l3 l4 l5 h0 h1 h2 h3 h4 h5 k g w t0 t1 t2 t3 t4 t5).ok ⟨ts,gR l G S⟩:=⟨h,trivial⟩
def lD (E:Nat→Nat→Int) (g:Nat→Nat→Int) (w:Int) (i:Nat):Int:=Nat.rec w (fun i a=>a+(E (Int.toNat (g i 0)) 0)) i
def xY (E:Nat→Nat→Int) (g:Nat→Nat→Int) (t0 t1 t2 t3 t4 t5:Int) (i:Nat):Int:=Nat.rec 0 (fun i a=>a+(E (Int.toNat (g i 0)) 0)*(jH [t0,t1,t2,t3,t4,t5] (g i 0))) i
def blB (O:Nat) (E:Nat→Nat→Int) (k:Nat) (g:Nat→Nat→Int) (w:Int) (t0 t1 t2 t3 t4 t5:Int):Bool:=cond (tnB O E t0 t1 t2 t3 t4 t5) (cond (Nat.ble k 1000) (cond (ak 0 w) (cond (ak w 1000) (cond (eX (fun i=>kE (g i 0) O) k) (ak 1 (lD E g w k)) false) false) false) false) false
theorem Kr {O:Nat} {E:Nat→Nat→Int} {k:Nat} {g:Nat→Nat→Int} {w:Int} {t0 t1 t2 t3 t4 t5:Int} (h:blB O E k g w t0 t1 t2 t3 t4 t5=true):k≤1000∧(0≤w∧w≤1000)∧1≤lD E g w k∧O≤6∧∀ i,i<k→(0≤g i 0∧g i 0<O)∧(1≤(E (Int.toNat (g i 0)) 0)∧(E (Int.toNat (g i 0)) 0)≤99)∧(g i 0=0→0≤(E (Int.toNat (g i 0)) 0)*t0∧(E (Int.toNat (g i 0)) 0)*t0≤198000)∧(g i 0=1→0≤(E (Int.toNat (g i 0)) 0)*t1∧(E (Int.toNat (g i 0)) 0)*t1≤198000)∧(g i 0=2→0≤(E (Int.toNat (g i 0)) 0)*t2∧(E (Int.toNat (g i 0)) 0)*t2≤198000)∧(g i 0=3→0≤(E (Int.toNat (g i 0)) 0)*t3∧(E (Int.toNat (g i 0)) 0)*t3≤198000)∧(g i 0=4→0≤(E (Int.toNat (g i 0)) 0)*t4∧(E (Int.toNat (g i 0)) 0)*t4≤198000)∧(g i 0=5→0≤(E (Int.toNat (g i 0)) 0)*t5∧(E (Int.toNat (g i 0)) 0)*t5≤198000):=by
 obtain ⟨a1,h⟩:=ah h
 obtain ⟨a2,h⟩:=ah h
 obtain ⟨a3,h⟩:=ah h
 obtain ⟨a4,h⟩:=ah h
 obtain ⟨a5,a6⟩:=ah h
 obtain ⟨b1,b2⟩:=ah a1
 rw [aW] at a3 a4 a6
 have h6:=Nat.le_of_ble_eq_true b1
 refine ⟨Nat.le_of_ble_eq_true a2,⟨a3,a4⟩,a6,h6,fun i hi=>?_⟩
 have c1:=aX a5 i hi
 rw [gp] at c1
 have c2:=aX b2 (Int.toNat (g i 0)) (by omega)
 obtain ⟨d1,d2⟩:=ah c2
 have d1:=gaB_t.mp d1
 have d2:=srB_t.mp d2
 have hm:∀ t:Int,0≤t∧t≤2000→0≤(E (Int.toNat (g i 0)) 0)*t∧(E (Int.toNat (g i 0)) 0)*t≤198000:=fun t ht=>⟨Int.mul_nonneg (by omega) ht.1,by
  have:=Int.mul_le_mul d1.2 ht.2 ht.1 (by omega)
  omega⟩
 refine ⟨c1,d1,?_,?_,?_,?_,?_,?_⟩<;>(intro e;exact hm _ (by rw [e] at d2;exact d2))
theorem aal {g:Nat→Nat→Int} {i O:Nat} {t0 t1 t2 t3 t4 t5:Int} (h:0≤g i 0∧g i 0<O) (h6:O≤6):(g i 0=0∧(jH [t0,t1,t2,t3,t4,t5] (g i 0))=t0)∨(g i 0=1∧(jH [t0,t1,t2,t3,t4,t5] (g i 0))=t1)∨(g i 0=2∧(jH [t0,t1,t2,t3,t4,t5] (g i 0))=t2)∨(g i 0=3∧(jH [t0,t1,t2,t3,t4,t5] (g i 0))=t3)∨(g i 0=4∧(jH [t0,t1,t2,t3,t4,t5] (g i 0))=t4)∨(g i 0=5∧(jH [t0,t1,t2,t3,t4,t5] (g i 0))=t5):=by
 have:g i 0=0∨g i 0=1∨g i 0=2∨g i 0=3∨g i 0=4∨g i 0=5:=by omega
 rcases this with e | e | e | e | e | e
 ·exact .inl ⟨e,by rw [e];rfl⟩
 ·exact .inr (.inl ⟨e,by rw [e];rfl⟩)
 ·exact .inr (.inr (.inl ⟨e,by rw [e];rfl⟩))
 ·exact .inr (.inr (.inr (.inl ⟨e,by rw [e];rfl⟩)))
 ·exact .inr (.inr (.inr (.inr (.inl ⟨e,by rw [e];rfl⟩))))
 ·exact .inr (.inr (.inr (.inr (.inr ⟨e,by rw [e];rfl⟩))))
theorem xE {E:Nat→Nat→Int} {g:Nat→Nat→Int} {w:Int} (i:Nat):lD E g w (i+1)=lD E g w i+(E (Int.toNat (g i 0)) 0):=rfl
theorem IV {E:Nat→Nat→Int} {g:Nat→Nat→Int} {t0 t1 t2 t3 t4 t5:Int} (i:Nat):xY E g t0 t1 t2 t3 t4 t5 (i+1)=xY E g t0 t1 t2 t3 t4 t5 i+(E (Int.toNat (g i 0)) 0)*(jH [t0,t1,t2,t3,t4,t5] (g i 0)):=rfl
theorem O6 {O:Nat} {E:Nat→Nat→Int} {k:Nat} {g:Nat→Nat→Int} {w:Int} {t0 t1 t2 t3 t4 t5:Int} (h:blB O E k g w t0 t1 t2 t3 t4 t5=true):∀ i,i≤k→(0≤lD E g w i∧lD E g w i≤1000+99*i)∧(0≤xY E g t0 t1 t2 t3 t4 t5 i∧xY E g t0 t1 t2 t3 t4 t5 i≤198000*i):=by
 obtain ⟨h1,h2,h3,h4,h5⟩:=Kr h
 intro i
 induction i with
 | zero=>intro _;exact ⟨⟨h2.1,by show w≤_;omega⟩,⟨Int.le_refl 0,by show (0:Int)≤_;omega⟩⟩
 | succ i ih =>
  intro hi
  obtain ⟨i1,i2⟩:=ih (by omega)
  obtain ⟨c1,c2,c3⟩:=h5 i (by omega)
  have e1:=xE (E:=E) (g:=g) (w:=w) i
  have e2:=IV (E:=E) (g:=g) (t0:=t0) (t1:=t1) (t2:=t2) (t3:=t3) (t4:=t4) (t5:=t5) i
  have e3:0≤(E (Int.toNat (g i 0)) 0)*(jH [t0,t1,t2,t3,t4,t5] (g i 0))∧(E (Int.toNat (g i 0)) 0)*(jH [t0,t1,t2,t3,t4,t5] (g i 0))≤198000:=by
   obtain ⟨p0,p1,p2,p3,p4,p5⟩:=c3
   rcases aal (t0:=t0) (t1:=t1) (t2:=t2) (t3:=t3) (t4:=t4) (t5:=t5) c1 h4 with ⟨e,e'⟩ | ⟨e,e'⟩ | ⟨e,e'⟩ | ⟨e,e'⟩ | ⟨e,e'⟩ | ⟨e,e'⟩<;>rw [e']
   ·exact p0 e
   ·exact p1 e
   ·exact p2 e
   ·exact p3 e
   ·exact p4 e
   ·exact p5 e
  rw [e1,e2]
  omega
theorem lpS (A:Nat) (B:Nat→Nat→Int) (I:Nat) (J:Nat→Nat→Int) (n:Nat) (M:Nat→Nat) (f:Nat→Nat→Nat→Int) (r:Int) (O:Nat) (E:Nat→Nat→Int) (l0 l1 l2 l3 l4 l5 h0 h1 h2 h3 h4 h5:Int) (k:Nat) (g:Nat→Nat→Int) (w:Int) (t0 t1 t2 t3 t4 t5:Int) (h:blB O E k g w t0 t1 t2 t3 t4 t5=true):JP Tryz.prog (ES A B I J n M f r O E l0 l1 l2 l3 l4 l5 h0 h1 h2 h3 h4 h5 k g w t0 t1 t2 t3 t4 t5) none (.loop b1) ⟨sC,gR (lC k g 0) w 0⟩ (.exit 0) ⟨[],gR [] (lD E g w k) (xY E g t0 t1 t2 t3 t4 t5 k)⟩:=by
 obtain ⟨z1,z2,z3,z4,z5⟩:=Kr h
 refine EL (ts:=sC) (y:=⟨[],gR [] (lD E g w k) (xY E g t0 t1 t2 t3 t4 t5 k)⟩) (o := .exit 0) (fun q=>by cases q) k (fun i=>gR (lC k g i) (lD E g w i) (xY E g t0 t1 t2 t3 t4 t5 i)) (fun i hi=>?_) ?_
 ·obtain ⟨s1,s2⟩:=O6 h i (by omega)
  obtain ⟨c1,c2,p0',p1,p2,p3,p4,p5⟩:=z5 i hi
  have hr:=(rd A B I J n M f r O E l0 l1 l2 l3 l4 l5 h0 h1 h2 h3 h4 h5 k g w t0 t1 t2 t3 t4 t5 (lD E g w i) (xY E g t0 t1 t2 t3 t4 t5 i) i hi z1 c1 z4 c2 (by omega) (by omega) (fun e=>by have:=p0' e;omega) (fun e=>by have:=p1 e;omega) (fun e=>by have:=p2 e;omega) (fun e=>by have:=p3 e;omega) (fun e=>by have:=p4 e;omega) (fun e=>by have:=p5 e;omega)).ok
  rw [← xE,← IV] at hr
  exact gz aj aG (okG A B I J n M f r O E l0 l1 l2 l3 l4 l5 h0 h1 h2 h3 h4 h5 k g w t0 t1 t2 t3 t4 t5 (by kernel_rfl)) (okG A B I J n M f r O E l0 l1 l2 l3 l4 l5 h0 h1 h2 h3 h4 h5 k g w t0 t1 t2 t3 t4 t5 (by kernel_rfl)) hr
 ·exact gz aj aG (okG A B I J n M f r O E l0 l1 l2 l3 l4 l5 h0 h1 h2 h3 h4 h5 k g w t0 t1 t2 t3 t4 t5 (by kernel_rfl)) (okG A B I J n M f r O E l0 l1 l2 l3 l4 l5 h0 h1 h2 h3 h4 h5 k g w t0 t1 t2 t3 t4 t5 (by kernel_rfl)) (rx A B I J n M f r O E l0 l1 l2 l3 l4 l5 h0 h1 h2 h3 h4 h5 k g w t0 t1 t2 t3 t4 t5 (lD E g w k) (xY E g t0 t1 t2 t3 t4 t5 k) k (by omega)).ok
theorem whS (A:Nat) (B:Nat→Nat→Int) (I:Nat) (J:Nat→Nat→Int) (n:Nat) (M:Nat→Nat) (f:Nat→Nat→Nat→Int) (r:Int) (O:Nat) (E:Nat→Nat→Int) (l0 l1 l2 l3 l4 l5 h0 h1 h2 h3 h4 h5:Int) (k:Nat) (g:Nat→Nat→Int) (w:Int) (t0 t1 t2 t3 t4 t5:Int) (h:blB O E k g w t0 t1 t2 t3 t4 t5=true):JP Tryz.prog (ES A B I J n M f r O E l0 l1 l2 l3 l4 l5 h0 h1 h2 h3 h4 h5 k g w t0 t1 t2 t3 t4 t5) none bP ⟨s3,gR lE w 0⟩ .normal ⟨[],gR [] (lD E g w k) (xY E g t0 t1 t2 t3 t4 t5 k)⟩:=by
 have e:bP = .seq (sub [0] bP) (.block 0 (.loop b1)):=by kernel_rfl
 exact O0 e (ng (y:=⟨sC,gR (lC k g 0) w 0⟩) (gz aj aG (okG A B I J n M f r O E l0 l1 l2 l3 l4 l5 h0 h1 h2 h3 h4 h5 k g w t0 t1 t2 t3 t4 t5 (by kernel_rfl)) (okG A B I J n M f r O E l0 l1 l2 l3 l4 l5 h0 h1 h2 h3 h4 h5 k g w t0 t1 t2 t3 t4 t5 (by kernel_rfl)) (p0 A B I J n M f r O E l0 l1 l2 l3 l4 l5 h0 h1 h2 h3 h4 h5 k g w t0 t1 t2 t3 t4 t5).ok) (Aq (lpS A B I J n M f r O E l0 l1 l2 l3 l4 l5 h0 h1 h2 h3 h4 h5 k g w t0 t1 t2 t3 t4 t5 h)))
theorem spS (A:Nat) (B:Nat→Nat→Int) (I:Nat) (J:Nat→Nat→Int) (n:Nat) (M:Nat→Nat) (f:Nat→Nat→Nat→Int) (r:Int) (O:Nat) (E:Nat→Nat→Int) (l0 l1 l2 l3 l4 l5 h0 h1 h2 h3 h4 h5:Int) (k:Nat) (g:Nat→Nat→Int) (w:Int) (t0 t1 t2 t3 t4 t5:Int) (h:blB O E k g w t0 t1 t2 t3 t4 t5=true):SpecCall Tryz.prog 107 lE (lg A B I J n M f r O E l0 l1 l2 l3 l4 l5 h0 h1 h2 h3 h4 h5 k g w t0 t1 t2 t3 t4 t5) (.tup []) (pY (lg A B I J n M f r O E l0 l1 l2 l3 l4 l5 h0 h1 h2 h3 h4 h5 k g w t0 t1 t2 t3 t4 t5) 100 (dJ 8 (lg A B I J n M f r O E l0 l1 l2 l3 l4 l5 h0 h1 h2 h3 h4 h5 k g w t0 t1 t2 t3 t4 t5).low) (gR [] (lD E g w k) (xY E g t0 t1 t2 t3 t4 t5 k))):=by
 have hJ:=NT (P:=Tryz.prog) (okG A B I J n M f r O E l0 l1 l2 l3 l4 l5 h0 h1 h2 h3 h4 h5 k g w t0 t1 t2 t3 t4 t5 (by kernel_rfl)) (show (ES A B I J n M f r O E l0 l1 l2 l3 l4 l5 h0 h1 h2 h3 h4 h5 k g w t0 t1 t2 t3 t4 t5).pack ⟨s3,gR lE w 0⟩ ⟨ja false lE,23,[]⟩ (lowTo (lg A B I J n M f r O E l0 l1 l2 l3 l4 l5 h0 h1 h2 h3 h4 h5 k g w t0 t1 t2 t3 t4 t5) big) from (en A B I J n M f r O E l0 l1 l2 l3 l4 l5 h0 h1 h2 h3 h4 h5 k g w t0 t1 t2 t3 t4 t5).ok) (whS A B I J n M f r O E l0 l1 l2 l3 l4 l5 h0 h1 h2 h3 h4 h5 k g w t0 t1 t2 t3 t4 t5 h)
 exact yK (P:=Tryz.prog) (g:=107) false (by kernel_rfl) hJ (by kernel_rfl)
def VF:Val:=fun das=>match das with | [.st [.sl 1 A B,.sl 1 I J,.rr 1 n M f,.i .i64 r,.sl 5 O E,.i .i64 l0,.i .i64 l1,.i .i64 l2,.i .i64 l3,.i .i64 l4,.i .i64 l5,.i .i64 h0,.i .i64 h1,.i .i64 h2,.i .i64 h3,.i .i64 h4,.i .i64 h5],.one (.sl 1 k g),.one (.i .i64 w),.st [.i .i64 t0,.i .i64 t1,.i .i64 t2,.i .i64 t3,.i .i64 t4,.i .i64 t5]]=>some (blB O E k g w t0 t1 t2 t3 t4 t5,.int .i64 (Int.tdiv (xY E g t0 t1 t2 t3 t4 t5 k) (lD E g w k))) | _=>none
theorem aaf:qi Tryz.prog 74 VF:=by
 intro das v hv
 unfold VF at hv
 split at hv
 ·rename_i A B I J n M f r O E l0 l1 l2 l3 l4 l5 h0 h1 h2 h3 h4 h5 k g w t0 t1 t2 t3 t4 t5
  have hb:=congrArg Prod.fst (Option.some.inj hv)
  have hv:=congrArg Prod.snd (Option.some.inj hv)
  subst hv
  refine ⟨rfl,?_⟩
  obtain ⟨z1,z2,z3,z4,z5⟩:=Kr hb
  obtain ⟨s1,s2⟩:=O6 hb k (by omega)
  have hs:=spS A B I J n M f r O E l0 l1 l2 l3 l4 l5 h0 h1 h2 h3 h4 h5 k g w t0 t1 t2 t3 t4 t5 hb
  have hc:sub pS (cZ Tryz.prog 74) = .rangeFunc (.tmp 16) (CG cS) (BO cS) (BP cS):=by kernel_rfl
  have hJ:=Oq aj (g := .tmp 16) (ps:=CG cS) (asg:=BO cS) (bd:=BP cS) (a:=aS A B I J n M f r O E l0 l1 l2 l3 l4 l5 h0 h1 h2 h3 h4 h5 k g w t0 t1 t2 t3 t4 t5) (H:=hS A B I J n M f r O E l0 l1 l2 l3 l4 l5 h0 h1 h2 h3 h4 h5 k g w t0 t1 t2 t3 t4 t5) (f:=107) (first:=[]) (captured:=[.ptr 11 0,.ptr 10 0]) (st := .ready) (tm:=(aS A B I J n M f r O E l0 l1 l2 l3 l4 l5 h0 h1 h2 h3 h4 h5 k g w t0 t1 t2 t3 t4 t5).tm) (n:=(aS A B I J n M f r O E l0 l1 l2 l3 l4 l5 h0 h1 h2 h3 h4 h5 k g w t0 t1 t2 t3 t4 t5).n) (ps2:=CG cS) (as2:=BO cS) (bd2:=BP cS) (df:=(hS A B I J n M f r O E l0 l1 l2 l3 l4 l5 h0 h1 h2 h3 h4 h5 k g w t0 t1 t2 t3 t4 t5).next) (by kernel_rfl) (by
   have e:app3 [] [V.yld (Nat.succ (hS A B I J n M f r O E l0 l1 l2 l3 l4 l5 h0 h1 h2 h3 h4 h5 k g w t0 t1 t2 t3 t4 t5).next)] [.ptr 11 0,.ptr 10 0]=lE:=by kernel_rfl
   rw [e];exact hs) (by kernel_rfl) rfl
  rw [← hc] at hJ
  have hq:0≤Int.tdiv (xY E g t0 t1 t2 t3 t4 t5 k) (lD E g w k)∧Int.tdiv (xY E g t0 t1 t2 t3 t4 t5 k) (lD E g w k)≤1000000000:=⟨Int.tdiv_nonneg s2.1 (by omega),by
   rw [Int.tdiv_eq_ediv_of_nonneg s2.1]
   have:=Int.ediv_le_self (lD E g w k) s2.1
   omega⟩
  exact Ua (das:=zn A B I J n M f r O E l0 l1 l2 l3 l4 l5 h0 h1 h2 h3 h4 h5 k g w t0 t1 t2 t3 t4 t5) (φ:=fun v _=>dB v (.int .i64 (Int.tdiv (xY E g t0 t1 t2 t3 t4 t5 k) (lD E g w k)))) aj aG (by kernel_rfl) (toS A B I J n M f r O E l0 l1 l2 l3 l4 l5 h0 h1 h2 h3 h4 h5 k g w t0 t1 t2 t3 t4 t5) hJ (fr A B I J n M f r O E l0 l1 l2 l3 l4 l5 h0 h1 h2 h3 h4 h5 k g w t0 t1 t2 t3 t4 t5 (lD E g w k) (xY E g t0 t1 t2 t3 t4 t5 k) z3 hq).ok
 ·cases hv
end
end BL
end Go.Proofs.YtiplgejpopellaaGreat
