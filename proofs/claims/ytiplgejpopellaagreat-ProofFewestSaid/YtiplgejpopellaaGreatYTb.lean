/- Tables: the strengths at all points of two ranges: the rounds of the iterator. -/
import Derived.Test.YtiplgejpopellaaGreatYTa
import Derived.Test.YtiplgejpopellaaGreatYEe
set_option linter.all false
set_option linter.unusedSimpArgs false
set_option linter.unusedVariables false
namespace Go.Proofs.YtiplgejpopellaaGreat
open Go Go.Ev
set_option maxRecDepth 1000000
noncomputable section
variable (A:Nat) (B:Nat→Nat→Int) (I:Nat) (J:Nat→Nat→Int) (n:Nat) (M:Nat→Nat) (f:Nat→Nat→Nat→Int)
def zn (A:Nat) (B:Nat→Nat→Int) (I:Nat) (J:Nat→Nat→Int) (n:Nat) (M:Nat→Nat) (f:Nat→Nat→Nat→Int) (Z wh X Y:Int):List DA:=[.st [.sl 1 A B,.sl 1 I J,.rr 1 n M f],.st [.i .i64 Z,.i .i64 wh],.st [.i .i64 X,.i .i64 Y]]
def XT2:Ext:=jO [(115,cfM N8)] false
theorem mr:dM Tryz.prog XT2:=dW (aA (vV Ya) bK)
def pS:List Nat:=[1,1,0,1,0]
def hS (A:Nat) (B:Nat→Nat→Int) (I:Nat) (J:Nat→Nat→Int) (n:Nat) (M:Nat→Nat) (f:Nat→Nat→Nat→Int) (Z wh X Y:Int):EH:=toH (qZ Tryz.prog XT2 300 104 pS (zn A B I J n M f Z wh X Y))
def aS (A:Nat) (B:Nat→Nat→Int) (I:Nat) (J:Nat→Nat→Int) (n:Nat) (M:Nat→Nat) (f:Nat→Nat→Nat→Int) (Z wh X Y:Int):EA:=toA (qZ Tryz.prog XT2 300 104 pS (zn A B I J n M f Z wh X Y))
def cS:Code:=sub pS (cZ Tryz.prog 104)
def lg (A:Nat) (B:Nat→Nat→Int) (I:Nat) (J:Nat→Nat→Int) (n:Nat) (M:Nat→Nat) (f:Nat→Nat→Nat→Int) (Z wh X Y:Int):EH:=Ap (hS A B I J n M f Z wh X Y) (aS A B I J n M f Z wh X Y) (CG cS) (BO cS) (BP cS)
def aK (A:Nat) (B:Nat→Nat→Int) (I:Nat) (J:Nat→Nat→Int) (n:Nat) (M:Nat→Nat) (f:Nat→Nat→Nat→Int) (Z wh X Y:Int):Env:=⟨lg A B I J n M f Z wh X Y,7,13,100,27⟩
def bP:Code:=cZ Tryz.prog 116
def l3:List V:=[.yld 11,.ptr 8 0,.ptr 9 0]
def l4 (a:Int):List V:=[.yld 11,.ptr 8 0,.ptr 9 0,.int .i64 a]
def l5 (a b:Int):List V:=[.yld 11,.ptr 8 0,.ptr 9 0,.int .i64 a,.int .i64 b]
def g0 (l:List V):GS:=⟨l,[(7,[.nilSlice])],none⟩
def uP (T:Nat) (F:Nat→Option V) (lit:Bool):Acc:=⟨12,12,T,.fn F,.cell 7 0,lit⟩
def gT (l:List V) (T:Nat) (F:Nat→Option V) (lit:Bool):GS:=⟨l,[(7,[.slice 12 0 T 1])],some (uP T F lit)⟩
def t3:List Nat:=[0,1,2]
def t4:List Nat:=[0,1,2,4]
def t5:List Nat:=[0,1,2,4,5]
def up (F:Nat→Option V) (T:Nat) (v:Int):Nat→Option V:=fun i=>cond (Nat.beq i T) (some (.int .i64 v)) (F i)
theorem p0 (Z wh X Y:Int):VC (jQ Tryz.prog XT2 300 (aK A B I J n M f Z wh X Y) none (sub [0] bP) ⟨t3,g0 l3⟩ .normal ⟨t4,g0 (l4 Z)⟩) .nil:=ai (((((V.yld 11:V)=V.yld 11)∧((((V.ptr 8 0):V)=(V.ptr 8 0))∧((((V.ptr 9 0):V)=(V.ptr 9 0))∧(((Z:Int)=Z)∧True))))∧(((((V.nilSlice:V)=V.nilSlice)∧True)∧True)∧(((((aK A B I J n M f Z wh X Y).base.objs.get (aK A B I J n M f Z wh X Y).L.succ:Option EO)=(aK A B I J n M f Z wh X Y).base.objs.get (aK A B I J n M f Z wh X Y).L.succ)∧((((aK A B I J n M f Z wh X Y).base.objs.get (aK A B I J n M f Z wh X Y).L.succ.succ:Option EO)=(aK A B I J n M f Z wh X Y).base.objs.get (aK A B I J n M f Z wh X Y).L.succ.succ)∧((((aK A B I J n M f Z wh X Y).base.objs.get (aK A B I J n M f Z wh X Y).L.succ.succ.succ:Option EO)=(aK A B I J n M f Z wh X Y).base.objs.get (aK A B I J n M f Z wh X Y).L.succ.succ.succ)∧((((aK A B I J n M f Z wh X Y).base.objs.get (aK A B I J n M f Z wh X Y).L.succ.succ.succ.succ:Option EO)=(aK A B I J n M f Z wh X Y).base.objs.get (aK A B I J n M f Z wh X Y).L.succ.succ.succ.succ)∧True))))∧True))))
def b1:Code:=sub [1,0,0] bP
def b2:Code:=sub [1,0,0,1,0,0,1,0,0] bP
theorem o1n (Z wh X Y:Int) (a:Int) (h:a≤wh):VC (jQ Tryz.prog XT2 300 (aK A B I J n M f Z wh X Y) none (sub [0] b1) ⟨t4,g0 (l4 a)⟩ .normal ⟨t4,g0 (l4 a)⟩) (.go 5 .nil):=ai (((ak a wh)=true∧((((V.yld 11:V)=V.yld 11)∧((((V.ptr 8 0):V)=(V.ptr 8 0))∧((((V.ptr 9 0):V)=(V.ptr 9 0))∧(((a:Int)=a)∧True))))∧(((((V.nilSlice:V)=V.nilSlice)∧True)∧True)∧(((((aK A B I J n M f Z wh X Y).base.objs.get (aK A B I J n M f Z wh X Y).L.succ:Option EO)=(aK A B I J n M f Z wh X Y).base.objs.get (aK A B I J n M f Z wh X Y).L.succ)∧((((aK A B I J n M f Z wh X Y).base.objs.get (aK A B I J n M f Z wh X Y).L.succ.succ:Option EO)=(aK A B I J n M f Z wh X Y).base.objs.get (aK A B I J n M f Z wh X Y).L.succ.succ)∧((((aK A B I J n M f Z wh X Y).base.objs.get (aK A B I J n M f Z wh X Y).L.succ.succ.succ:Option EO)=(aK A B I J n M f Z wh X Y).base.objs.get (aK A B I J n M f Z wh X Y).L.succ.succ.succ)∧((((aK A B I J n M f Z wh X Y).base.objs.get (aK A B I J n M f Z wh X Y).L.succ.succ.succ.succ:Option EO)=(aK A B I J n M f Z wh X Y).base.objs.get (aK A B I J n M f Z wh X Y).L.succ.succ.succ.succ)∧True))))∧True)))))
theorem o2n (Z wh X Y:Int) (a:Int):VC (jQ Tryz.prog XT2 300 (aK A B I J n M f Z wh X Y) none (sub [1,0,0,0] b1) ⟨t4,g0 (l4 a)⟩ .normal ⟨t5,g0 (l5 a X)⟩) .nil:=ai (((((V.yld 11:V)=V.yld 11)∧((((V.ptr 8 0):V)=(V.ptr 8 0))∧((((V.ptr 9 0):V)=(V.ptr 9 0))∧(((a:Int)=a)∧(((X:Int)=X)∧True)))))∧(((((V.nilSlice:V)=V.nilSlice)∧True)∧True)∧(((((aK A B I J n M f Z wh X Y).base.objs.get (aK A B I J n M f Z wh X Y).L.succ:Option EO)=(aK A B I J n M f Z wh X Y).base.objs.get (aK A B I J n M f Z wh X Y).L.succ)∧((((aK A B I J n M f Z wh X Y).base.objs.get (aK A B I J n M f Z wh X Y).L.succ.succ:Option EO)=(aK A B I J n M f Z wh X Y).base.objs.get (aK A B I J n M f Z wh X Y).L.succ.succ)∧((((aK A B I J n M f Z wh X Y).base.objs.get (aK A B I J n M f Z wh X Y).L.succ.succ.succ:Option EO)=(aK A B I J n M f Z wh X Y).base.objs.get (aK A B I J n M f Z wh X Y).L.succ.succ.succ)∧((((aK A B I J n M f Z wh X Y).base.objs.get (aK A B I J n M f Z wh X Y).L.succ.succ.succ.succ:Option EO)=(aK A B I J n M f Z wh X Y).base.objs.get (aK A B I J n M f Z wh X Y).L.succ.succ.succ.succ)∧True))))∧True))))
theorem r1n (Z wh X Y:Int) (a b:Int) (h:b≤Y) (hs : -1000≤b∧b≤1000) (hk:pU A B I J n M f a b=true):VC (jQ Tryz.prog XT2 300 (aK A B I J n M f Z wh X Y) none b2 ⟨t5,g0 (l5 a b)⟩ .normal ⟨t5,gT (l5 a (b+1)) 1 (up (fun _=>none) 0 (iy A B I J f a b)) true⟩) (.go 325 .nil):=ai (((ak b Y)=true∧((cond true (cond (cond (aZ 13 A B I J n M f) true false) (pU A B I J n M f a b) false) false)=true∧((small (b+1))=true∧((((V.yld 11:V)=V.yld 11)∧((((V.ptr 8 0):V)=(V.ptr 8 0))∧((((V.ptr 9 0):V)=(V.ptr 9 0))∧(((a:Int)=a)∧((((b+1):Int)=(b+1))∧True)))))∧((((((V.slice 12 0 1 1):V)=(V.slice 12 0 1 1))∧True)∧True)∧(((((aK A B I J n M f Z wh X Y).base.objs.get (aK A B I J n M f Z wh X Y).L.succ:Option EO)=(aK A B I J n M f Z wh X Y).base.objs.get (aK A B I J n M f Z wh X Y).L.succ)∧((((aK A B I J n M f Z wh X Y).base.objs.get (aK A B I J n M f Z wh X Y).L.succ.succ:Option EO)=(aK A B I J n M f Z wh X Y).base.objs.get (aK A B I J n M f Z wh X Y).L.succ.succ)∧((((aK A B I J n M f Z wh X Y).base.objs.get (aK A B I J n M f Z wh X Y).L.succ.succ.succ:Option EO)=(aK A B I J n M f Z wh X Y).base.objs.get (aK A B I J n M f Z wh X Y).L.succ.succ.succ)∧((((aK A B I J n M f Z wh X Y).base.objs.get (aK A B I J n M f Z wh X Y).L.succ.succ.succ.succ:Option EO)=(aK A B I J n M f Z wh X Y).base.objs.get (aK A B I J n M f Z wh X Y).L.succ.succ.succ.succ)∧True))))∧(((((1:Nat):Int):Int)=((1:Nat):Int))∧((((iy A B I J f a b):Int)=(iy A B I J f a b))∧True)))))))))
theorem o1 (Z wh X Y:Int) (a:Int) (T:Nat) (F:Nat→Option V) (h:a≤wh):VC (jQ Tryz.prog XT2 300 (aK A B I J n M f Z wh X Y) none (sub [0] b1) ⟨t4,gT (l4 a) T F false⟩ .normal ⟨t4,gT (l4 a) T F false⟩) (.go 5 .nil):=ai (((ak a wh)=true∧((((V.yld 11:V)=V.yld 11)∧((((V.ptr 8 0):V)=(V.ptr 8 0))∧((((V.ptr 9 0):V)=(V.ptr 9 0))∧(((a:Int)=a)∧True))))∧((((((V.slice 12 0 T 1):V)=(V.slice 12 0 T 1))∧True)∧True)∧(((((aK A B I J n M f Z wh X Y).base.objs.get (aK A B I J n M f Z wh X Y).L.succ:Option EO)=(aK A B I J n M f Z wh X Y).base.objs.get (aK A B I J n M f Z wh X Y).L.succ)∧((((aK A B I J n M f Z wh X Y).base.objs.get (aK A B I J n M f Z wh X Y).L.succ.succ:Option EO)=(aK A B I J n M f Z wh X Y).base.objs.get (aK A B I J n M f Z wh X Y).L.succ.succ)∧((((aK A B I J n M f Z wh X Y).base.objs.get (aK A B I J n M f Z wh X Y).L.succ.succ.succ:Option EO)=(aK A B I J n M f Z wh X Y).base.objs.get (aK A B I J n M f Z wh X Y).L.succ.succ.succ)∧((((aK A B I J n M f Z wh X Y).base.objs.get (aK A B I J n M f Z wh X Y).L.succ.succ.succ.succ:Option EO)=(aK A B I J n M f Z wh X Y).base.objs.get (aK A B I J n M f Z wh X Y).L.succ.succ.succ.succ)∧True))))∧((((T:Int):Int)=(T:Int))∧(((uP T F false).c:Ev.T V)=(uP T F false).c)))))))
theorem o1x (Z wh X Y:Int) (a:Int) (T:Nat) (F:Nat→Option V) (h:¬ a≤wh):VC (jQ Tryz.prog XT2 300 (aK A B I J n M f Z wh X Y) none (sub [0] b1) ⟨t4,gT (l4 a) T F false⟩ (.exit 0) ⟨[],gT [] T F false⟩) (.go 6 .nil):=ai (((ak a wh)=false∧(True∧((((((V.slice 12 0 T 1):V)=(V.slice 12 0 T 1))∧True)∧True)∧(((((aK A B I J n M f Z wh X Y).base.objs.get (aK A B I J n M f Z wh X Y).L.succ:Option EO)=(aK A B I J n M f Z wh X Y).base.objs.get (aK A B I J n M f Z wh X Y).L.succ)∧((((aK A B I J n M f Z wh X Y).base.objs.get (aK A B I J n M f Z wh X Y).L.succ.succ:Option EO)=(aK A B I J n M f Z wh X Y).base.objs.get (aK A B I J n M f Z wh X Y).L.succ.succ)∧((((aK A B I J n M f Z wh X Y).base.objs.get (aK A B I J n M f Z wh X Y).L.succ.succ.succ:Option EO)=(aK A B I J n M f Z wh X Y).base.objs.get (aK A B I J n M f Z wh X Y).L.succ.succ.succ)∧((((aK A B I J n M f Z wh X Y).base.objs.get (aK A B I J n M f Z wh X Y).L.succ.succ.succ.succ:Option EO)=(aK A B I J n M f Z wh X Y).base.objs.get (aK A B I J n M f Z wh X Y).L.succ.succ.succ.succ)∧True))))∧((((T:Int):Int)=(T:Int))∧(((uP T F false).c:Ev.T V)=(uP T F false).c)))))))
theorem o2 (Z wh X Y:Int) (a:Int) (T:Nat) (F:Nat→Option V):VC (jQ Tryz.prog XT2 300 (aK A B I J n M f Z wh X Y) none (sub [1,0,0,0] b1) ⟨t4,gT (l4 a) T F false⟩ .normal ⟨t5,gT (l5 a X) T F false⟩) .nil:=ai (((((V.yld 11:V)=V.yld 11)∧((((V.ptr 8 0):V)=(V.ptr 8 0))∧((((V.ptr 9 0):V)=(V.ptr 9 0))∧(((a:Int)=a)∧(((X:Int)=X)∧True)))))∧((((((V.slice 12 0 T 1):V)=(V.slice 12 0 T 1))∧True)∧True)∧(((((aK A B I J n M f Z wh X Y).base.objs.get (aK A B I J n M f Z wh X Y).L.succ:Option EO)=(aK A B I J n M f Z wh X Y).base.objs.get (aK A B I J n M f Z wh X Y).L.succ)∧((((aK A B I J n M f Z wh X Y).base.objs.get (aK A B I J n M f Z wh X Y).L.succ.succ:Option EO)=(aK A B I J n M f Z wh X Y).base.objs.get (aK A B I J n M f Z wh X Y).L.succ.succ)∧((((aK A B I J n M f Z wh X Y).base.objs.get (aK A B I J n M f Z wh X Y).L.succ.succ.succ:Option EO)=(aK A B I J n M f Z wh X Y).base.objs.get (aK A B I J n M f Z wh X Y).L.succ.succ.succ)∧((((aK A B I J n M f Z wh X Y).base.objs.get (aK A B I J n M f Z wh X Y).L.succ.succ.succ.succ:Option EO)=(aK A B I J n M f Z wh X Y).base.objs.get (aK A B I J n M f Z wh X Y).L.succ.succ.succ.succ)∧True))))∧((((T:Int):Int)=(T:Int))∧(((uP T F false).c:Ev.T V)=(uP T F false).c))))))
theorem r1 (Z wh X Y:Int) (a b:Int) (T:Nat) (F:Nat→Option V) (hT:T≤100000) (h:b≤Y) (hs : -1000≤b∧b≤1000) (hk:pU A B I J n M f a b=true):VC (jQ Tryz.prog XT2 300 (aK A B I J n M f Z wh X Y) none b2 ⟨t5,gT (l5 a b) T F false⟩ .normal ⟨t5,gT (l5 a (b+1)) (T+1) (up F T (iy A B I J f a b)) false⟩) (.go 5205 .nil):=ai (((ak b Y)=true∧((cond true (cond (cond (aZ 13 A B I J n M f) true false) (pU A B I J n M f a b) false) false)=true∧((cond (Nat.ble (((2*(T+1))+200)*8) 281474976710656) (cond (Nat.ble (T+1) 281474976710656) true false) false)=true∧((Nat.ble T T)=true∧((small (b+1))=true∧((((V.yld 11:V)=V.yld 11)∧((((V.ptr 8 0):V)=(V.ptr 8 0))∧((((V.ptr 9 0):V)=(V.ptr 9 0))∧(((a:Int)=a)∧((((b+1):Int)=(b+1))∧True)))))∧((((((V.slice 12 0 (T+1) 1):V)=(V.slice 12 0 (T+1) 1))∧True)∧True)∧(((((aK A B I J n M f Z wh X Y).base.objs.get (aK A B I J n M f Z wh X Y).L.succ:Option EO)=(aK A B I J n M f Z wh X Y).base.objs.get (aK A B I J n M f Z wh X Y).L.succ)∧((((aK A B I J n M f Z wh X Y).base.objs.get (aK A B I J n M f Z wh X Y).L.succ.succ:Option EO)=(aK A B I J n M f Z wh X Y).base.objs.get (aK A B I J n M f Z wh X Y).L.succ.succ)∧((((aK A B I J n M f Z wh X Y).base.objs.get (aK A B I J n M f Z wh X Y).L.succ.succ.succ:Option EO)=(aK A B I J n M f Z wh X Y).base.objs.get (aK A B I J n M f Z wh X Y).L.succ.succ.succ)∧((((aK A B I J n M f Z wh X Y).base.objs.get (aK A B I J n M f Z wh X Y).L.succ.succ.succ.succ:Option EO)=(aK A B I J n M f Z wh X Y).base.objs.get (aK A B I J n M f Z wh X Y).L.succ.succ.succ.succ)∧True))))∧((((((T+1):Nat):Int):Int)=(((T+1):Nat):Int))∧(((uP (T+1) (up F T (iy A B I J f a b)) false).c:Ev.T V)=(uP (T+1) (up F T (iy A B I J f a b)) false).c)))))))))))
theorem r1x (Z wh X Y:Int) (a b:Int) (T:Nat) (F:Nat→Option V) (h:¬ b≤Y):VC (jQ Tryz.prog XT2 300 (aK A B I J n M f Z wh X Y) none b2 ⟨t5,gT (l5 a b) T F false⟩ (.exit 2) ⟨t4,gT (l4 a) T F false⟩) (.go 6 .nil):=ai (((ak b Y)=false∧((((V.yld 11:V)=V.yld 11)∧((((V.ptr 8 0):V)=(V.ptr 8 0))∧((((V.ptr 9 0):V)=(V.ptr 9 0))∧(((a:Int)=a)∧True))))∧((((((V.slice 12 0 T 1):V)=(V.slice 12 0 T 1))∧True)∧True)∧(((((aK A B I J n M f Z wh X Y).base.objs.get (aK A B I J n M f Z wh X Y).L.succ:Option EO)=(aK A B I J n M f Z wh X Y).base.objs.get (aK A B I J n M f Z wh X Y).L.succ)∧((((aK A B I J n M f Z wh X Y).base.objs.get (aK A B I J n M f Z wh X Y).L.succ.succ:Option EO)=(aK A B I J n M f Z wh X Y).base.objs.get (aK A B I J n M f Z wh X Y).L.succ.succ)∧((((aK A B I J n M f Z wh X Y).base.objs.get (aK A B I J n M f Z wh X Y).L.succ.succ.succ:Option EO)=(aK A B I J n M f Z wh X Y).base.objs.get (aK A B I J n M f Z wh X Y).L.succ.succ.succ)∧((((aK A B I J n M f Z wh X Y).base.objs.get (aK A B I J n M f Z wh X Y).L.succ.succ.succ.succ:Option EO)=(aK A B I J n M f Z wh X Y).base.objs.get (aK A B I J n M f Z wh X Y).L.succ.succ.succ.succ)∧True))))∧((((T:Int):Int)=(T:Int))∧(((uP T F false).c:Ev.T V)=(uP T F false).c)))))))
theorem o3 (Z wh X Y:Int) (a:Int) (T:Nat) (F:Nat→Option V) (hs : -1000≤a∧a≤1000):VC (jQ Tryz.prog XT2 300 (aK A B I J n M f Z wh X Y) none (sub [1,1] b1) ⟨t4,gT (l4 a) T F false⟩ .normal ⟨t4,gT (l4 (a+1)) T F false⟩) (.go 5 .nil):=ai (((small (a+1))=true∧((((V.yld 11:V)=V.yld 11)∧((((V.ptr 8 0):V)=(V.ptr 8 0))∧((((V.ptr 9 0):V)=(V.ptr 9 0))∧((((a+1):Int)=(a+1))∧True))))∧((((((V.slice 12 0 T 1):V)=(V.slice 12 0 T 1))∧True)∧True)∧(((((aK A B I J n M f Z wh X Y).base.objs.get (aK A B I J n M f Z wh X Y).L.succ:Option EO)=(aK A B I J n M f Z wh X Y).base.objs.get (aK A B I J n M f Z wh X Y).L.succ)∧((((aK A B I J n M f Z wh X Y).base.objs.get (aK A B I J n M f Z wh X Y).L.succ.succ:Option EO)=(aK A B I J n M f Z wh X Y).base.objs.get (aK A B I J n M f Z wh X Y).L.succ.succ)∧((((aK A B I J n M f Z wh X Y).base.objs.get (aK A B I J n M f Z wh X Y).L.succ.succ.succ:Option EO)=(aK A B I J n M f Z wh X Y).base.objs.get (aK A B I J n M f Z wh X Y).L.succ.succ.succ)∧((((aK A B I J n M f Z wh X Y).base.objs.get (aK A B I J n M f Z wh X Y).L.succ.succ.succ.succ:Option EO)=(aK A B I J n M f Z wh X Y).base.objs.get (aK A B I J n M f Z wh X Y).L.succ.succ.succ.succ)∧True))))∧((((T:Int):Int)=(T:Int))∧(((uP T F false).c:Ev.T V)=(uP T F false).c)))))))
end
end Go.Proofs.YtiplgejpopellaaGreat
/- Tables: the strengths at all points of two ranges, as a contract. -/
namespace Go.Proofs.YtiplgejpopellaaGreat
open Go Go.Ev
set_option maxRecDepth 1000000
noncomputable section
section
variable (A:Nat) (B:Nat→Nat→Int) (I:Nat) (J:Nat→Nat→Int) (n:Nat) (M:Nat→Nat) (f:Nat→Nat→Nat→Int) (Z wh X Y:Int)
def nM:Nat:=Int.toNat (Y-X+1)
def nW:Nat:=Int.toNat (wh-Z+1)
def dZ (t:Nat):Int:=iy A B I J f (Z+((t/nM X Y:Nat):Int)) (X+((t%nM X Y:Nat):Int))
def FS (t:Nat):Nat→Option V:=Nat.rec (fun _=>none) (fun t ih=>up ih t (dZ A B I J f Z X Y t)) t
theorem UN:∀ {T i:Nat},i<T→FS A B I J f Z X Y T i=some (.int .i64 (dZ A B I J f Z X Y i)):=by
 intro T
 induction T with
 | zero=>intro i hi;omega
 | succ T ih =>
  intro i hi
  show cond (Nat.beq i T) (some (.int .i64 (dZ A B I J f Z X Y T))) (FS A B I J f Z X Y T i)=_
  rw [aO]
  by_cases e:i=T
  ·rw [if_pos e,e]
  ·rw [if_neg e,ih (by omega)]
theorem pR (T:Nat) (lit:Bool):yM (some (uP T (FS A B I J f Z X Y T) lit)):=fun i hi=>⟨_,UN A B I J f Z X Y hi,rfl⟩
theorem ok0 (x:TS) (h:(aK A B I J n M f Z wh X Y).okB x=true) (hn:x.s.acc=none):(aK A B I J n M f Z wh X Y).ok x:=⟨h,by rw [hn];exact trivial⟩
theorem okT (ts:List Nat) (l:List V) (T:Nat) (lit:Bool) (h:(aK A B I J n M f Z wh X Y).okB ⟨ts,gT l T (FS A B I J f Z X Y T) lit⟩=true):(aK A B I J n M f Z wh X Y).ok ⟨ts,gT l T (FS A B I J f Z X Y T) lit⟩:=⟨h,pR A B I J f Z X Y T lit⟩
def He:Prop:=Z≤wh∧X≤Y∧0≤Z∧wh≤100∧0≤X∧Y≤100∧∀ a b,Z≤a→a≤wh→X≤b→b≤Y→pU A B I J n M f a b=true
theorem kT (h:X≤Y):(nM X Y:Int)=Y-X+1:=by unfold nM;omega
theorem zI {i k:Nat} (h:X≤Y) (hk:k<nM X Y):dZ A B I J f Z X Y (i*nM X Y+k)=iy A B I J f (Z+i) (X+k):=by
 unfold dZ
 have hp:0<nM X Y:=by omega
 have e1:(i*nM X Y+k)/nM X Y=i:=by rw [Nat.mul_comm,Nat.mul_add_div hp,Nat.div_eq_of_lt hk];rfl
 have e2:(i*nM X Y+k)%nM X Y=k:=by rw [Nat.mul_comm,Nat.mul_add_mod,Nat.mod_eq_of_lt hk]
 rw [e1,e2]
theorem UK {T:Nat} {v:Int} (h:v=dZ A B I J f Z X Y T):up (FS A B I J f Z X Y T) T v=FS A B I J f Z X Y (T+1):=by rw [h];rfl
theorem inner {i:Nat} (hp:He A B I J n M f Z wh X Y) (hi:Z+i≤wh) (x:GS) (hx:(i=0∧x=g0 (l5 Z X))∨(0<i∧x=gT (l5 (Z+i) X) (i*nM X Y) (FS A B I J f Z X Y (i*nM X Y)) false)) :
 JP Tryz.prog (aK A B I J n M f Z wh X Y) none (.loop b2) ⟨t5,x⟩ (.exit 2) ⟨t4,gT (l4 (Z+i)) ((i+1)*nM X Y) (FS A B I J f Z X Y ((i+1)*nM X Y)) false⟩:=by
 obtain ⟨h1,h2,h3,h4,h5,h6,h7⟩:=hp
 have hm:=kT X Y h2
 have hT:(i+1)*nM X Y=i*nM X Y+nM X Y:=by rw [Nat.add_mul,Nat.one_mul]
 have hbd:∀ k,k≤nM X Y→i*nM X Y+k≤100000:=fun k hk=>by
  have:=Nat.mul_le_mul (show i≤100 by omega) (show nM X Y≤101 by omega)
  omega
 let S:Nat→GS:=fun k=>match k with | 0=>x | k+1=>gT (l5 (Z+i) (X+((k+1:Nat):Int))) (i*nM X Y+(k+1)) (FS A B I J f Z X Y (i*nM X Y+(k+1))) false
 have hS:∀ k,0<i*nM X Y+k→S k=gT (l5 (Z+i) (X+(k:Int))) (i*nM X Y+k) (FS A B I J f Z X Y (i*nM X Y+k)) false:=fun k hk=>by
  cases k with
  | zero =>
   show x=_
   rcases hx with ⟨e,_⟩ | ⟨_,e⟩
   ·subst e;simp at hk
   ·rw [e];simp
  | succ k=>rfl
 refine EL (o := .exit 2) (fun q=>by cases q) (nM X Y) S (fun k hk=>?_) ?_
 ·have hv:pU A B I J n M f (Z+i) (X+k)=true:=h7 _ _ (by omega) hi (by omega) (by omega)
  by_cases h0:0<i*nM X Y+k
  ·rw [hS k h0,hS (k+1) (by omega)]
   have:=gz aj mr (okT A B I J n M f Z wh X Y _ _ _ false (by kernel_rfl)) (by
    rw [UK A B I J f Z X Y (zI A B I J f Z X Y h2 hk).symm]
    exact okT A B I J n M f Z wh X Y _ _ _ false (by kernel_rfl)) (r1 A B I J n M f Z wh X Y (Z+i) (X+k) (i*nM X Y+k) (FS A B I J f Z X Y (i*nM X Y+k)) (hbd k (by omega)) (by omega) (by omega) hv).ok
   rw [UK A B I J f Z X Y (zI A B I J f Z X Y h2 hk).symm] at this
   rw [show X+((k+1:Nat):Int)=X+k+1 by omega]
   exact this
  ·have e0:i*nM X Y+k=0:=by omega
   have ek:k=0:=by omega
   subst ek
   have ei:i=0:=by
    rcases hx with ⟨e,_⟩ | ⟨e,_⟩
    ·exact e
    ·have:=Nat.mul_pos e (show 0<nM X Y by omega);omega
   subst ei
   have ex:x=g0 (l5 Z X):=by
    rcases hx with ⟨_,e⟩ | ⟨e,_⟩
    ·exact e
    ·omega
   have e1:S 0=g0 (l5 Z X):=ex
   have hz:iy A B I J f Z X=dZ A B I J f Z X Y 0:=by
    have:=zI (i:=0) (k:=0) A B I J f Z X Y h2 (by omega)
    simp at this;exact this.symm
   have hv':pU A B I J n M f Z X=true:=h7 _ _ (by omega) h1 (by omega) h2
   have:=gz aj mr (ok0 A B I J n M f Z wh X Y ⟨t5,g0 (l5 Z X)⟩ (by kernel_rfl) rfl) (by
    rw [show (up (fun _=>none) 0 (iy A B I J f Z X))=FS A B I J f Z X Y 1 by rw [hz];rfl]
    exact okT A B I J n M f Z wh X Y _ _ _ true (by kernel_rfl)) (r1n A B I J n M f Z wh X Y Z X h2 (by omega) hv').ok
   rw [show (up (fun _=>none) 0 (iy A B I J f Z X))=FS A B I J f Z X Y 1 by rw [hz];rfl] at this
   rw [e1,hS 1 (by omega)]
   simp only [Nat.zero_mul,Nat.zero_add] at this ⊢
   rw [show Z+((0:Nat):Int)=Z by omega,show X+((1:Nat):Int)=X+1 by omega]
   exact this
 ·rw [hS (nM X Y) (by omega),hT]
  exact gz aj mr (okT A B I J n M f Z wh X Y _ _ _ false (by kernel_rfl)) (okT A B I J n M f Z wh X Y _ _ _ false (by kernel_rfl)) (r1x A B I J n M f Z wh X Y (Z+i) (X+(nM X Y:Nat)) (i*nM X Y+nM X Y) (FS A B I J f Z X Y (i*nM X Y+nM X Y)) (by omega)).ok
theorem outer (hp:He A B I J n M f Z wh X Y):JP Tryz.prog (aK A B I J n M f Z wh X Y) none (.loop b1) ⟨t4,g0 (l4 Z)⟩ (.exit 0) ⟨[],gT [] (nW Z wh*nM X Y) (FS A B I J f Z X Y (nW Z wh*nM X Y)) false⟩:=by
 have hp0:=hp
 obtain ⟨h1,h2,h3,h4,h5,h6,h7⟩:=hp
 have hm:=kT X Y h2
 have hw:(nW Z wh:Int)=wh-Z+1:=kT Z wh h1
 let S:Nat→GS:=fun k=>match k with | 0=>g0 (l4 Z) | k+1=>gT (l4 (Z+((k+1:Nat):Int))) ((k+1)*nM X Y) (FS A B I J f Z X Y ((k+1)*nM X Y)) false
 have hS:∀ k,0<k→S k=gT (l4 (Z+(k:Int))) (k*nM X Y) (FS A B I J f Z X Y (k*nM X Y)) false:=fun k hk=>by
  cases k with
  | zero=>omega
  | succ k=>rfl
 have e2:b1 = .seq (sub [0] b1) (.seq (.block 1 (.seq (sub [1,0,0,0] b1) (.block 2 (.loop b2)))) (sub [1,1] b1)):=by kernel_rfl
 refine EL (o := .exit 0) (fun q=>by cases q) (nW Z wh) S (fun k hk=>?_) ?_
 ·refine O0 e2 ?_
  have hin:∀ x,(k=0∧x=g0 (l5 Z X))∨(0<k∧x=gT (l5 (Z+k) X) (k*nM X Y) (FS A B I J f Z X Y (k*nM X Y)) false)→JP Tryz.prog (aK A B I J n M f Z wh X Y) none (.block 2 (.loop b2)) ⟨t5,x⟩ .normal ⟨t4,gT (l4 (Z+k)) ((k+1)*nM X Y) (FS A B I J f Z X Y ((k+1)*nM X Y)) false⟩:=fun x hx =>
   Aq (inner A B I J n M f Z wh X Y hp0 (by omega) x hx)
  have h3':JP Tryz.prog (aK A B I J n M f Z wh X Y) none (sub [1,1] b1) ⟨t4,gT (l4 (Z+k)) ((k+1)*nM X Y) (FS A B I J f Z X Y ((k+1)*nM X Y)) false⟩ .normal ⟨t4,S (k+1)⟩:=by
   rw [hS (k+1) (by omega),show Z+((k+1:Nat):Int)=Z+k+1 by omega]
   exact gz aj mr (okT A B I J n M f Z wh X Y _ _ _ false (by kernel_rfl)) (okT A B I J n M f Z wh X Y _ _ _ false (by kernel_rfl)) (o3 A B I J n M f Z wh X Y (Z+k) ((k+1)*nM X Y) (FS A B I J f Z X Y ((k+1)*nM X Y)) (by omega)).ok
  cases k with
  | zero =>
   refine ng (y:=⟨t4,g0 (l4 Z)⟩) (gz aj mr (ok0 A B I J n M f Z wh X Y _ (by kernel_rfl) rfl) (ok0 A B I J n M f Z wh X Y _ (by kernel_rfl) rfl) (o1n A B I J n M f Z wh X Y Z h1).ok) (ng (zy (o := .normal) (ng (y:=⟨t5,g0 (l5 Z X)⟩) (gz aj mr (ok0 A B I J n M f Z wh X Y _ (by kernel_rfl) rfl) (ok0 A B I J n M f Z wh X Y _ (by kernel_rfl) rfl) (o2n A B I J n M f Z wh X Y Z).ok) (hin _ (.inl ⟨rfl,rfl⟩)))) h3')
  | succ k =>
   rw [hS (k+1) (by omega)]
   have okk:∀ ts l,(aK A B I J n M f Z wh X Y).okB ⟨ts,gT l ((k+1)*nM X Y) (FS A B I J f Z X Y ((k+1)*nM X Y)) false⟩=true→(aK A B I J n M f Z wh X Y).ok ⟨ts,gT l ((k+1)*nM X Y) (FS A B I J f Z X Y ((k+1)*nM X Y)) false⟩:=fun ts l h=>okT A B I J n M f Z wh X Y ts l _ false h
   refine ng (y:=⟨t4,gT (l4 (Z+((k+1:Nat):Int))) ((k+1)*nM X Y) (FS A B I J f Z X Y ((k+1)*nM X Y)) false⟩) (gz aj mr (okk _ _ (by kernel_rfl)) (okk _ _ (by kernel_rfl)) (o1 A B I J n M f Z wh X Y (Z+((k+1:Nat):Int)) ((k+1)*nM X Y) _ (by omega)).ok)
    (ng (zy (o := .normal) (ng (y:=⟨t5,gT (l5 (Z+((k+1:Nat):Int)) X) ((k+1)*nM X Y) (FS A B I J f Z X Y ((k+1)*nM X Y)) false⟩) (gz aj mr (okk _ _ (by kernel_rfl)) (okk _ _ (by kernel_rfl)) (o2 A B I J n M f Z wh X Y (Z+((k+1:Nat):Int)) ((k+1)*nM X Y) _).ok) (hin _ (.inr ⟨by omega,rfl⟩)))) h3')
 ·rw [hS (nW Z wh) (by omega)]
  exact O0 e2 (We (gz aj mr (okT A B I J n M f Z wh X Y _ _ _ false (by kernel_rfl)) (okT A B I J n M f Z wh X Y _ _ _ false (by kernel_rfl)) (o1x A B I J n M f Z wh X Y (Z+(nW Z wh:Nat)) (nW Z wh*nM X Y) _ (by omega)).ok) (fun q=>by cases q))
theorem whole (hp:He A B I J n M f Z wh X Y):JP Tryz.prog (aK A B I J n M f Z wh X Y) none bP ⟨t3,g0 l3⟩ .normal ⟨[],gT [] (nW Z wh*nM X Y) (FS A B I J f Z X Y (nW Z wh*nM X Y)) false⟩:=by
 have e:bP = .seq (sub [0] bP) (.block 0 (.loop b1)):=by kernel_rfl
 exact O0 e (ng (y:=⟨t4,g0 (l4 Z)⟩) (gz aj mr (ok0 A B I J n M f Z wh X Y _ (by kernel_rfl) rfl) (ok0 A B I J n M f Z wh X Y _ (by kernel_rfl) rfl) (p0 A B I J n M f Z wh X Y).ok) (Aq (outer A B I J n M f Z wh X Y hp)))
end
end
end Go.Proofs.YtiplgejpopellaaGreat
/- Tables: the strengths at all points of two ranges: the contract. -/
namespace Go.Proofs.YtiplgejpopellaaGreat
open Go Go.Ev
set_option maxRecDepth 1000000
noncomputable section
variable (A:Nat) (B:Nat→Nat→Int) (I:Nat) (J:Nat→Nat→Int) (n:Nat) (M:Nat→Nat) (f:Nat→Nat→Nat→Int)
def yG:List V:=[.yld 11,.ptr 8 0,.ptr 9 0]
def adA (A:Nat) (B:Nat→Nat→Int) (I:Nat) (J:Nat→Nat→Int) (n:Nat) (M:Nat→Nat) (f:Nat→Nat→Nat→Int) (Z wh X Y:Int) (T:Nat) (F:Nat→Option V):Res := .normal ⟨(aS A B I J n M f Z wh X Y).tm,(aS A B I J n M f Z wh X Y).n,(hS A B I J n M f Z wh X Y).next::(aS A B I J n M f Z wh X Y).df⟩ (fH (pY (lg A B I J n M f Z wh X Y) 100 (dJ 7 (lg A B I J n M f Z wh X Y).low) (gT [] T F false)) (Nat.succ (hS A B I J n M f Z wh X Y).next) .exhausted none (aS A B I J n M f Z wh X Y).tm (aS A B I J n M f Z wh X Y).n (CG cS) (BO cS) (BP cS) (hS A B I J n M f Z wh X Y).next)
theorem en (Z wh X Y:Int):VC (D.leaf ((aK A B I J n M f Z wh X Y).pack ⟨t3,g0 l3⟩ ⟨ja false yG,27,[]⟩ (lowTo (lg A B I J n M f Z wh X Y) big))) .nil:=ai (((((V.yld 11:V)=V.yld 11)∧((((V.ptr 8 0):V)=(V.ptr 8 0))∧((((V.ptr 9 0):V)=(V.ptr 9 0))∧True)))∧(((((V.nilSlice:V)=V.nilSlice)∧True)∧True)∧(((((aK A B I J n M f Z wh X Y).base.objs.get (aK A B I J n M f Z wh X Y).L.succ:Option EO)=(aK A B I J n M f Z wh X Y).base.objs.get (aK A B I J n M f Z wh X Y).L.succ)∧((((aK A B I J n M f Z wh X Y).base.objs.get (aK A B I J n M f Z wh X Y).L.succ.succ:Option EO)=(aK A B I J n M f Z wh X Y).base.objs.get (aK A B I J n M f Z wh X Y).L.succ.succ)∧((((aK A B I J n M f Z wh X Y).base.objs.get (aK A B I J n M f Z wh X Y).L.succ.succ.succ:Option EO)=(aK A B I J n M f Z wh X Y).base.objs.get (aK A B I J n M f Z wh X Y).L.succ.succ.succ)∧((((aK A B I J n M f Z wh X Y).base.objs.get (aK A B I J n M f Z wh X Y).L.succ.succ.succ.succ:Option EO)=(aK A B I J n M f Z wh X Y).base.objs.get (aK A B I J n M f Z wh X Y).L.succ.succ.succ.succ)∧True))))∧True))))
theorem fr (Z wh X Y:Int) (T:Nat) (F:Nat→Option V):VC (iM Tryz.prog kD XT2 (.leaf False) 300 none pS (cZ Tryz.prog 104) (adA A B I J n M f Z wh X Y T F) (fun r => .leaf (resD Tryz.prog 104 (rowIs 12 T (.fn F)) r))) .nil:=ai (((((V.slice 12 0 T 1):V)=(V.slice 12 0 T 1))∧((((T:Int):Int)=(T:Int))∧((Ev.T.fn F:Ev.T V)=Ev.T.fn F))))
theorem toS (A:Nat) (B:Nat→Nat→Int) (I:Nat) (J:Nat→Nat→Int) (n:Nat) (M:Nat→Nat) (f:Nat→Nat→Nat→Int) (Z wh X Y:Int):qZ Tryz.prog XT2 300 104 pS (zn A B I J n M f Z wh X Y)=some (aS A B I J n M f Z wh X Y,hS A B I J n M f Z wh X Y):=by kernel_rfl
theorem abA (A:Nat) (B:Nat→Nat→Int) (I:Nat) (J:Nat→Nat→Int) (n:Nat) (M:Nat→Nat) (f:Nat→Nat→Nat→Int) (Z wh X Y:Int) (hp:He A B I J n M f Z wh X Y):SpecCall Tryz.prog 116 yG (lg A B I J n M f Z wh X Y) (.tup []) (pY (lg A B I J n M f Z wh X Y) 100 (dJ 7 (lg A B I J n M f Z wh X Y).low) (gT [] (nW Z wh*nM X Y) (FS A B I J f Z X Y (nW Z wh*nM X Y)) false)):=by
 have hJ:=NT (P:=Tryz.prog) (ok0 A B I J n M f Z wh X Y ⟨t3,g0 l3⟩ (by kernel_rfl) rfl) (show (aK A B I J n M f Z wh X Y).pack ⟨t3,g0 l3⟩ ⟨ja false yG,27,[]⟩ (lowTo (lg A B I J n M f Z wh X Y) big) from (en A B I J n M f Z wh X Y).ok) (whole A B I J n M f Z wh X Y hp)
 exact yK (P:=Tryz.prog) (g:=116) false (by kernel_rfl) hJ (by kernel_rfl)
def Iq (A:Nat) (B:Nat→Nat→Int) (I:Nat) (J:Nat→Nat→Int) (n:Nat) (M:Nat→Nat) (f:Nat→Nat→Nat→Int) (Z wh X Y:Int):Bool:=cond (ak Z wh) (cond (ak X Y) (cond (ak 0 Z) (cond (ak wh 100) (cond (ak 0 X) (cond (ak Y 100) (eX (fun i=>eX (fun k=>pU A B I J n M f (Z+i) (X+k)) (nM X Y)) (nW Z wh)) false) false) false) false) false) false
theorem Sv (A:Nat) (B:Nat→Nat→Int) (I:Nat) (J:Nat→Nat→Int) (n:Nat) (M:Nat→Nat) (f:Nat→Nat→Nat→Int) (Z wh X Y:Int) (h:Iq A B I J n M f Z wh X Y=true):He A B I J n M f Z wh X Y:=by
 obtain ⟨h1,h⟩:=ah h
 obtain ⟨h2,h⟩:=ah h
 obtain ⟨h3,h⟩:=ah h
 obtain ⟨h4,h⟩:=ah h
 obtain ⟨h5,h⟩:=ah h
 obtain ⟨h6,h7⟩:=ah h
 rw [aW] at h1 h2 h3 h4 h5 h6
 refine ⟨h1,h2,h3,h4,h5,h6,fun a b ha hb hc hd=>?_⟩
 have hm:=kT X Y h2
 have hw:(nW Z wh:Int)=wh-Z+1:=kT Z wh h1
 have:=aX (aX h7 (Int.toNat (a-Z)) (by omega)) (Int.toNat (b-X)) (by omega)
 rw [show Z+((Int.toNat (a-Z):Nat):Int)=a by omega,show X+((Int.toNat (b-X):Nat):Int)=b by omega] at this
 exact this
def KO:Val:=fun das=>match das with | [.st [.sl 1 A B,.sl 1 I J,.rr 1 n M f],.st [.i .i64 Z,.i .i64 wh],.st [.i .i64 X,.i .i64 Y]]=>some (Iq A B I J n M f Z wh X Y,.fz true 0 (ae .i64 (fun i _=>dZ A B I J f Z X Y i)) (nW Z wh*nM X Y) 1) | _=>none
theorem ZC:abl Tryz.prog 104 KO:=by
 intro das x hv
 unfold KO at hv
 split at hv
 ·rename_i A B I J n M f Z wh X Y
  have hb:=congrArg Prod.fst (Option.some.inj hv)
  have hv:=congrArg Prod.snd (Option.some.inj hv)
  subst hv
  have hp:=Sv _ _ _ _ _ _ _ _ _ _ _ hb
  have hs:=abA A B I J n M f Z wh X Y hp
  have hc:sub pS (cZ Tryz.prog 104) = .rangeFunc (.tmp 12) (CG cS) (BO cS) (BP cS):=by kernel_rfl
  have hJ:=Oq aj (g := .tmp 12) (ps:=CG cS) (asg:=BO cS) (bd:=BP cS) (a:=aS A B I J n M f Z wh X Y) (H:=hS A B I J n M f Z wh X Y) (f:=116) (first:=[]) (captured:=[.ptr 8 0,.ptr 9 0]) (st := .ready) (tm:=(aS A B I J n M f Z wh X Y).tm) (n:=(aS A B I J n M f Z wh X Y).n) (ps2:=CG cS) (as2:=BO cS) (bd2:=BP cS) (df:=(hS A B I J n M f Z wh X Y).next) (by kernel_rfl) (by
   have e:app3 [] [V.yld (Nat.succ (hS A B I J n M f Z wh X Y).next)] [.ptr 8 0,.ptr 9 0]=yG:=by kernel_rfl
   rw [e];exact hs) (by kernel_rfl) rfl
  rw [← hc] at hJ
  obtain ⟨v',H',q1,q2⟩:=Ua (das:=zn A B I J n M f Z wh X Y) (φ:=rowIs 12 (nW Z wh*nM X Y) (.fn (FS A B I J f Z X Y (nW Z wh*nM X Y)))) aj mr (by kernel_rfl) (toS A B I J n M f Z wh X Y) hJ (fr A B I J n M f Z wh X Y (nW Z wh*nM X Y) (FS A B I J f Z X Y (nW Z wh*nM X Y))).ok
  exact ⟨v',H',q1,Vo q2 (f:=dZ A B I J f Z X Y) fun i hi=>UN A B I J f Z X Y hi⟩
 ·cases hv
end
end Go.Proofs.YtiplgejpopellaaGreat
/- Tables: contracts: the minimum and the maximum of a row. -/
namespace Go.Proofs.YtiplgejpopellaaGreat
open Go Go.Ev
set_option maxRecDepth 1000000
noncomputable section
def mP (f:Nat→Nat→Int) (x:Int) (n:Nat):Int:=Nat.rec x (fun k ih=>min ih (f k 0)) n
def mW (f:Nat→Nat→Int) (x:Int) (n:Nat):Int:=Nat.rec x (fun k ih=>max ih (f k 0)) n
def ltF:LT:=⟨[0,7,8,9],[0],[],2⟩
def sF (len:Nat) (f:Nat→Nat→Int) (c:Int) (k:Nat):LS:=⟨[.int .i64 c,.fz true 0 (ae .i64 f) len 1,.int .i64 len,.int .i64 k],[]⟩
def Xa (x:Int) (len:Nat) (f:Nat→Nat→Int):List DA:=[.one (.i .i64 x),.one (.sl 1 len f)]
def bLe:Code:=sub [1,0,1,0,0] (cZ Tryz.prog 105)
def bGr:Code:=sub [1,0,1,0,0] (cZ Tryz.prog 106)
theorem eLe (x:Int) (len:Nat) (f:Nat→Nat→Int):VC (ql Tryz.prog az 300 105 [1,0,1,0] (Xa x len f) (aU 2) ltF 18 60 (sF len f x 0)) .nil:=ai ((True∧((((x:Int)=x)∧((((V.fz true 0 (fun i j=>V.int IntKind.i64 (f i j)) len 1):V)=(V.fz true 0 (fun i j=>V.int IntKind.i64 (f i j)) len 1))∧((((len:Int):Int)=(len:Int))∧((((0):Int)=((0:Nat):Int))∧True))))∧True)))
theorem rLe (c:Int) (len k:Nat) (f:Nat→Nat→Int) (h1:k<len) (h2:len≤1000000):VC (bM Tryz.prog az 300 bLe (aU 2) ltF 18 60 (sF len f c k) (.next (sF len f (min c (f k 0)) (k+1)))) (.go 85 .nil):=ai (((not (ak (len:Int) (k:Int)))=true∧((Nat.blt k len)=true∧((small ((k:Int)+1))=true∧(((((cond (ak c (f k 0)) c (f k 0)):Int)=(min c (f k 0)))∧((((V.fz true 0 (fun i j=>V.int IntKind.i64 (f i j)) len 1):V)=(V.fz true 0 (fun i j=>V.int IntKind.i64 (f i j)) len 1))∧((((len:Int):Int)=(len:Int))∧(((((k:Int)+1):Int)=(((k+1):Nat):Int))∧True))))∧True)))))
theorem xLe (c:Int) (len k:Nat) (f:Nat→Nat→Int) (h1:¬ k<len):VC (bM Tryz.prog az 300 bLe (aU 2) ltF 18 60 (sF len f c k) (.exit 0 ⟨[.int .i64 c],[]⟩)) (.go 6 .nil):=ai (((not (ak (len:Int) (k:Int)))=false∧((((c:Int)=c)∧True)∧True)))
theorem fLe (c:Int):VC (fromD Tryz.prog az 300 105 [1,0,1,0] (Lv.res ltF 18 (iw (aU 2) ltF 60 (.exit 0 ⟨[.int .i64 c],[]⟩)) (.exit 0 ⟨[.int .i64 c],[]⟩)) (.int .i64 c)) .nil:=ai (((c:Int)=c))
theorem eGr (x:Int) (len:Nat) (f:Nat→Nat→Int):VC (ql Tryz.prog az 300 106 [1,0,1,0] (Xa x len f) (aU 2) ltF 18 60 (sF len f x 0)) .nil:=ai ((True∧((((x:Int)=x)∧((((V.fz true 0 (fun i j=>V.int IntKind.i64 (f i j)) len 1):V)=(V.fz true 0 (fun i j=>V.int IntKind.i64 (f i j)) len 1))∧((((len:Int):Int)=(len:Int))∧((((0):Int)=((0:Nat):Int))∧True))))∧True)))
theorem rGr (c:Int) (len k:Nat) (f:Nat→Nat→Int) (h1:k<len) (h2:len≤1000000):VC (bM Tryz.prog az 300 bGr (aU 2) ltF 18 60 (sF len f c k) (.next (sF len f (max c (f k 0)) (k+1)))) (.go 85 .nil):=ai (((not (ak (len:Int) (k:Int)))=true∧((Nat.blt k len)=true∧((small ((k:Int)+1))=true∧(((((cond (ak (f k 0) c) c (f k 0)):Int)=(max c (f k 0)))∧((((V.fz true 0 (fun i j=>V.int IntKind.i64 (f i j)) len 1):V)=(V.fz true 0 (fun i j=>V.int IntKind.i64 (f i j)) len 1))∧((((len:Int):Int)=(len:Int))∧(((((k:Int)+1):Int)=(((k+1):Nat):Int))∧True))))∧True)))))
theorem xGr (c:Int) (len k:Nat) (f:Nat→Nat→Int) (h1:¬ k<len):VC (bM Tryz.prog az 300 bGr (aU 2) ltF 18 60 (sF len f c k) (.exit 0 ⟨[.int .i64 c],[]⟩)) (.go 6 .nil):=ai (((not (ak (len:Int) (k:Int)))=false∧((((c:Int)=c)∧True)∧True)))
theorem fGr (c:Int):VC (fromD Tryz.prog az 300 106 [1,0,1,0] (Lv.res ltF 18 (iw (aU 2) ltF 60 (.exit 0 ⟨[.int .i64 c],[]⟩)) (.exit 0 ⟨[.int .i64 c],[]⟩)) (.int .i64 c)) .nil:=ai (((c:Int)=c))
def Tt:Val:=fun das=>match das with | [.one (.i .i64 x),.one (.sl 1 len f)]=>some (Nat.ble len 1000000,.int .i64 (mP f x len)) | _=>none
def RS:Val:=fun das=>match das with | [.one (.i .i64 x),.one (.sl 1 len f)]=>some (Nat.ble len 1000000,.int .i64 (mW f x len)) | _=>none
theorem abw:qi Tryz.prog 105 Tt:=by
 intro das v hv
 unfold Tt at hv
 split at hv
 ·rename_i x len f
  have hb:=congrArg Prod.fst (Option.some.inj hv)
  have hv:=congrArg Prod.snd (Option.some.inj hv)
  subst hv
  have hb:=Nat.le_of_ble_eq_true hb
  refine ⟨rfl,?_⟩
  exact bV aj aG (das:=Xa x len f) (v := .int .i64 (mP f x len)) (lv := .exit 0 ⟨[.int .i64 (mP f x len)],[]⟩) (by kernel_rfl) (by kernel_rfl) (eLe x len f).ok (bz (body:=bLe) (fun _ e=>by cases e) len (fun k=>sF len f (mP f x k) k) (fun k hk=>aP aj aG (rLe (mP f x k) len k f hk hb).ok (by kernel_rfl) (by kernel_rfl)) (aP aj aG (xLe (mP f x len) len len f (by omega)).ok (by kernel_rfl) (by kernel_rfl))) (fLe (mP f x len)).ok
 ·cases hv
theorem aaV:qi Tryz.prog 106 RS:=by
 intro das v hv
 unfold RS at hv
 split at hv
 ·rename_i x len f
  have hb:=congrArg Prod.fst (Option.some.inj hv)
  have hv:=congrArg Prod.snd (Option.some.inj hv)
  subst hv
  have hb:=Nat.le_of_ble_eq_true hb
  refine ⟨rfl,?_⟩
  exact bV aj aG (das:=Xa x len f) (v := .int .i64 (mW f x len)) (lv := .exit 0 ⟨[.int .i64 (mW f x len)],[]⟩) (by kernel_rfl) (by kernel_rfl) (eGr x len f).ok (bz (body:=bGr) (fun _ e=>by cases e) len (fun k=>sF len f (mW f x k) k) (fun k hk=>aP aj aG (rGr (mW f x k) len k f hk hb).ok (by kernel_rfl) (by kernel_rfl)) (aP aj aG (xGr (mW f x len) len len f (by omega)).ok (by kernel_rfl) (by kernel_rfl))) (fGr (mW f x len)).ok
 ·cases hv
end
end Go.Proofs.YtiplgejpopellaaGreat
/- Tables: contracts: the bounds at all points of two ranges. -/
namespace Go.Proofs.YtiplgejpopellaaGreat
open Go Go.Ev
set_option maxRecDepth 1000000
noncomputable section
def XT3:Ext:=jO [(104,cfR KO),(105,cf Tt),(106,cf RS)] false
theorem Zz:dM Tryz.prog XT3:=dW (aA (WH ZC)<|aA (dR abw)<|aA (dR aaV) bK)
def nP (Z wh X Y:Int):Nat:=nW Z wh*nM X Y
def dO (A:Nat) (B:Nat→Nat→Int) (I:Nat) (J:Nat→Nat→Int) (f:Nat→Nat→Nat→Int) (Z wh X Y:Int):Int:=mP (fun i _=>dZ A B I J f Z X Y i) (dZ A B I J f Z X Y 0) (nP Z wh X Y)
def dP (A:Nat) (B:Nat→Nat→Int) (I:Nat) (J:Nat→Nat→Int) (f:Nat→Nat→Nat→Int) (Z wh X Y:Int):Int:=mW (fun i _=>dZ A B I J f Z X Y i) (dZ A B I J f Z X Y 0) (nP Z wh X Y)
theorem r74 (A:Nat) (B:Nat→Nat→Int) (I:Nat) (J:Nat→Nat→Int) (n:Nat) (M:Nat→Nat) (f:Nat→Nat→Nat→Int) (Z wh X Y:Int) (hp:Iq A B I J n M f Z wh X Y=true) (hn:1≤nW Z wh*nM X Y∧nW Z wh*nM X Y≤100000):VC (dh Tryz.prog XT3 300 92 (enc (zn A B I J n M f Z wh X Y) 0) 3 (fun x=>dB x (.agg 2 (T.setL .lf 0 [.int .i64 (dO A B I J f Z wh X Y),.int .i64 (dP A B I J f Z wh X Y)])))) (.go 1365 .nil):=ai (((cond (cond (aZ 2 A B I J n M f) true false) (Iq A B I J n M f Z wh X Y) false)=true∧((Nat.blt 0 ((nW Z wh)*(nM X Y)))=true∧((cond (cond (ay .i64 (ae .i64 (fun i j =>
 dZ A (fun i j=>dK (ae .i64 B i j)) I (fun i j=>dK (ae .i64 J i j))
  (fun i j k=>dK (pV (aQ (jV (D0.sl 1 I J) (jV (D0.sl 1 A B) 0)) 1 M f i 0) j k)) Z X Y i)) ((nW Z wh)*(nM X Y)) 1) true false) (Nat.ble ((nW Z wh)*(nM X Y)) 1000000) false)=true∧((Nat.blt 0 ((nW Z wh)*(nM X Y)))=true∧((cond (cond (ay .i64 (ae .i64 (fun i j =>
 dZ A (fun i j=>dK (ae .i64 B i j)) I (fun i j=>dK (ae .i64 J i j))
  (fun i j k=>dK (pV (aQ (jV (D0.sl 1 I J) (jV (D0.sl 1 A B) 0)) 1 M f i 0) j k)) Z X Y i)) ((nW Z wh)*(nM X Y)) 1) true false) (Nat.ble ((nW Z wh)*(nM X Y)) 1000000) false)=true∧((((mP (fun i j =>
 dK
  (ae .i64
   (fun i x =>
    dZ A (fun i j=>dK (ae .i64 B i j)) I (fun i j=>dK (ae .i64 J i j))
     (fun i j k=>dK (pV (aQ (jV (D0.sl 1 I J) (jV (D0.sl 1 A B) 0)) 1 M f i 0) j k)) Z X Y i)
   i j)) (dZ A B I J f Z X Y 0) ((nW Z wh)*(nM X Y))):Int)=(mP (fun i x=>dZ A B I J f Z X Y i) (dZ A B I J f Z X Y 0) ((nW Z wh)*(nM X Y))))∧((((mW (fun i j =>
 dK
  (ae .i64
   (fun i x =>
    dZ A (fun i j=>dK (ae .i64 B i j)) I (fun i j=>dK (ae .i64 J i j))
     (fun i j k=>dK (pV (aQ (jV (D0.sl 1 I J) (jV (D0.sl 1 A B) 0)) 1 M f i 0) j k)) Z X Y i)
   i j)) (dZ A B I J f Z X Y 0) ((nW Z wh)*(nM X Y))):Int)=(mW (fun i x=>dZ A B I J f Z X Y i) (dZ A B I J f Z X Y 0) ((nW Z wh)*(nM X Y))))∧True))))))))
def Uw:Val:=fun das=>match das with | [.st [.sl 1 A B,.sl 1 I J,.rr 1 n M f],.st [.i .i64 Z,.i .i64 wh],.st [.i .i64 X,.i .i64 Y]]=>some (Iq A B I J n M f Z wh X Y,.agg 2 (T.setL .lf 0 [.int .i64 (dO A B I J f Z wh X Y),.int .i64 (dP A B I J f Z wh X Y)])) | _=>none
theorem aa7:qi Tryz.prog 92 Uw:=by
 intro das x hv
 unfold Uw at hv
 split at hv
 ·rename_i A B I J n M f Z wh X Y
  have hb:=congrArg Prod.fst (Option.some.inj hv)
  have hv:=congrArg Prod.snd (Option.some.inj hv)
  subst hv
  obtain ⟨h1,h2,h3,h4,h5,h6,h7⟩:=Sv _ _ _ _ _ _ _ _ _ _ _ hb
  have hm:=kT X Y h2
  have hw:(nW Z wh:Int)=wh-Z+1:=kT Z wh h1
  have g1:=Nat.mul_le_mul (show 1≤nW Z wh by omega) (show 1≤nM X Y by omega)
  have g2:=Nat.mul_le_mul (show nW Z wh≤101 by omega) (show nM X Y≤101 by omega)
  exact bn aj Zz rfl (das:=zn A B I J n M f Z wh X Y) (r74 A B I J n M f Z wh X Y hb ⟨by omega,by omega⟩)
 ·cases hv
end
end Go.Proofs.YtiplgejpopellaaGreat
