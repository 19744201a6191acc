/- Tables: the strengths at all points of two ranges: the rounds of the iterator. -/
import Derived.Test.YtclagbonpachfaaGreatYTa
import Derived.Test.YtclagbonpachfaaGreatYEe
set_option linter.all false
set_option linter.unusedSimpArgs false
set_option linter.unusedVariables false
namespace Go.Proofs.YtclagbonpachfaaGreat
open Go Go.Ev
set_option maxRecDepth 1000000
noncomputable section
variable (lw:Nat) (fw:Nat→Nat→Int) (lm:Nat) (fm:Nat→Nat→Int) (n:Nat) (ls:Nat→Nat) (f:Nat→Nat→Nat→Int)
def dasS (lw:Nat) (fw:Nat→Nat→Int) (lm:Nat) (fm:Nat→Nat→Int) (n:Nat) (ls:Nat→Nat) (f:Nat→Nat→Nat→Int) (wl wh ml mh:Int):List DA:=[.st [.sl 1 lw fw,.sl 1 lm fm,.rr 1 n ls f],.st [.i .i64 wl,.i .i64 wh],.st [.i .i64 ml,.i .i64 mh]]
def XT2:Ext:=conX [(117,cfM val67)] false
theorem XT2_ok:ExtOK Tryz.prog XT2:=conX_ok (allCon_cons (con_okM con67) allCon_nil)
def pS:List Nat:=[1,1,0,1,0]
def hS (lw:Nat) (fw:Nat→Nat→Int) (lm:Nat) (fm:Nat→Nat→Int) (n:Nat) (ls:Nat→Nat) (f:Nat→Nat→Nat→Int) (wl wh ml mh:Int):EH:=toH (toLoop Tryz.prog XT2 300 107 pS (dasS lw fw lm fm n ls f wl wh ml mh))
def aS (lw:Nat) (fw:Nat→Nat→Int) (lm:Nat) (fm:Nat→Nat→Int) (n:Nat) (ls:Nat→Nat) (f:Nat→Nat→Nat→Int) (wl wh ml mh:Int):EA:=toA (toLoop Tryz.prog XT2 300 107 pS (dasS lw fw lm fm n ls f wl wh ml mh))
def cS:Code:=sub pS (bodyOf Tryz.prog 107)
def baseS (lw:Nat) (fw:Nat→Nat→Int) (lm:Nat) (fm:Nat→Nat→Int) (n:Nat) (ls:Nat→Nat) (f:Nat→Nat→Nat→Int) (wl wh ml mh:Int):EH:=rangeH (hS lw fw lm fm n ls f wl wh ml mh) (aS lw fw lm fm n ls f wl wh ml mh) (rfPs cS) (rfAs cS) (rfBd cS)
def E141 (lw:Nat) (fw:Nat→Nat→Int) (lm:Nat) (fm:Nat→Nat→Int) (n:Nat) (ls:Nat→Nat) (f:Nat→Nat→Nat→Int) (wl wh ml mh:Int):Env:=⟨baseS lw fw lm fm n ls f wl wh ml mh,7,13,100,27⟩
def bP:Code:=bodyOf Tryz.prog 118
def l3:List V:=[.yld 11,.ptr 8 0,.ptr 9 0]
def l4 (a:Int):List V:=[.yld 11,.ptr 8 0,.ptr 9 0,.int .i64 a]
def l5 (a b:Int):List V:=[.yld 11,.ptr 8 0,.ptr 9 0,.int .i64 a,.int .i64 b]
def g0 (l:List V):GS:=⟨l,[(7,[.nilSlice])],none⟩
def accS (T:Nat) (F:Nat→Option V) (lit:Bool):Acc:=⟨12,12,T,.fn F,.cell 7 0,lit⟩
def gT (l:List V) (T:Nat) (F:Nat→Option V) (lit:Bool):GS:=⟨l,[(7,[.slice 12 0 T 1])],some (accS T F lit)⟩
def t3:List Nat:=[0,1,2]
def t4:List Nat:=[0,1,2,4]
def t5:List Nat:=[0,1,2,4,5]
def up (F:Nat→Option V) (T:Nat) (v:Int):Nat→Option V:=fun i=>cond (Nat.beq i T) (some (.int .i64 v)) (F i)
theorem p0 (wl wh ml mh:Int):VC (pieceD Tryz.prog XT2 300 (E141 lw fw lm fm n ls f wl wh ml mh) none (sub [0] bP) ⟨t3,g0 l3⟩ .normal ⟨t4,g0 (l4 wl)⟩) .nil:=VC_of (((((V.yld 11:V)=V.yld 11)∧((((V.ptr 8 0):V)=(V.ptr 8 0))∧((((V.ptr 9 0):V)=(V.ptr 9 0))∧(((wl:Int)=wl)∧True))))∧(((((V.nilSlice:V)=V.nilSlice)∧True)∧True)∧(((((E141 lw fw lm fm n ls f wl wh ml mh).base.objs.get (E141 lw fw lm fm n ls f wl wh ml mh).L.succ:Option EO)=(E141 lw fw lm fm n ls f wl wh ml mh).base.objs.get (E141 lw fw lm fm n ls f wl wh ml mh).L.succ)∧((((E141 lw fw lm fm n ls f wl wh ml mh).base.objs.get (E141 lw fw lm fm n ls f wl wh ml mh).L.succ.succ:Option EO)=(E141 lw fw lm fm n ls f wl wh ml mh).base.objs.get (E141 lw fw lm fm n ls f wl wh ml mh).L.succ.succ)∧((((E141 lw fw lm fm n ls f wl wh ml mh).base.objs.get (E141 lw fw lm fm n ls f wl wh ml mh).L.succ.succ.succ:Option EO)=(E141 lw fw lm fm n ls f wl wh ml mh).base.objs.get (E141 lw fw lm fm n ls f wl wh ml mh).L.succ.succ.succ)∧((((E141 lw fw lm fm n ls f wl wh ml mh).base.objs.get (E141 lw fw lm fm n ls f wl wh ml mh).L.succ.succ.succ.succ:Option EO)=(E141 lw fw lm fm n ls f wl wh ml mh).base.objs.get (E141 lw fw lm fm n ls f wl wh ml mh).L.succ.succ.succ.succ)∧True))))∧True))))
def b1:Code:=sub [1,0,0] bP
def b2:Code:=sub [1,0,0,1,0,0,1,0,0] bP
theorem o1n (wl wh ml mh:Int) (a:Int) (h:a≤wh):VC (pieceD Tryz.prog XT2 300 (E141 lw fw lm fm n ls f wl wh ml mh) none (sub [0] b1) ⟨t4,g0 (l4 a)⟩ .normal ⟨t4,g0 (l4 a)⟩) (.go 5 .nil):=VC_of (((iLe a wh)=true∧((((V.yld 11:V)=V.yld 11)∧((((V.ptr 8 0):V)=(V.ptr 8 0))∧((((V.ptr 9 0):V)=(V.ptr 9 0))∧(((a:Int)=a)∧True))))∧(((((V.nilSlice:V)=V.nilSlice)∧True)∧True)∧(((((E141 lw fw lm fm n ls f wl wh ml mh).base.objs.get (E141 lw fw lm fm n ls f wl wh ml mh).L.succ:Option EO)=(E141 lw fw lm fm n ls f wl wh ml mh).base.objs.get (E141 lw fw lm fm n ls f wl wh ml mh).L.succ)∧((((E141 lw fw lm fm n ls f wl wh ml mh).base.objs.get (E141 lw fw lm fm n ls f wl wh ml mh).L.succ.succ:Option EO)=(E141 lw fw lm fm n ls f wl wh ml mh).base.objs.get (E141 lw fw lm fm n ls f wl wh ml mh).L.succ.succ)∧((((E141 lw fw lm fm n ls f wl wh ml mh).base.objs.get (E141 lw fw lm fm n ls f wl wh ml mh).L.succ.succ.succ:Option EO)=(E141 lw fw lm fm n ls f wl wh ml mh).base.objs.get (E141 lw fw lm fm n ls f wl wh ml mh).L.succ.succ.succ)∧((((E141 lw fw lm fm n ls f wl wh ml mh).base.objs.get (E141 lw fw lm fm n ls f wl wh ml mh).L.succ.succ.succ.succ:Option EO)=(E141 lw fw lm fm n ls f wl wh ml mh).base.objs.get (E141 lw fw lm fm n ls f wl wh ml mh).L.succ.succ.succ.succ)∧True))))∧True)))))
theorem o2n (wl wh ml mh:Int) (a:Int):VC (pieceD Tryz.prog XT2 300 (E141 lw fw lm fm n ls f wl wh ml mh) none (sub [1,0,0,0] b1) ⟨t4,g0 (l4 a)⟩ .normal ⟨t5,g0 (l5 a ml)⟩) .nil:=VC_of (((((V.yld 11:V)=V.yld 11)∧((((V.ptr 8 0):V)=(V.ptr 8 0))∧((((V.ptr 9 0):V)=(V.ptr 9 0))∧(((a:Int)=a)∧(((ml:Int)=ml)∧True)))))∧(((((V.nilSlice:V)=V.nilSlice)∧True)∧True)∧(((((E141 lw fw lm fm n ls f wl wh ml mh).base.objs.get (E141 lw fw lm fm n ls f wl wh ml mh).L.succ:Option EO)=(E141 lw fw lm fm n ls f wl wh ml mh).base.objs.get (E141 lw fw lm fm n ls f wl wh ml mh).L.succ)∧((((E141 lw fw lm fm n ls f wl wh ml mh).base.objs.get (E141 lw fw lm fm n ls f wl wh ml mh).L.succ.succ:Option EO)=(E141 lw fw lm fm n ls f wl wh ml mh).base.objs.get (E141 lw fw lm fm n ls f wl wh ml mh).L.succ.succ)∧((((E141 lw fw lm fm n ls f wl wh ml mh).base.objs.get (E141 lw fw lm fm n ls f wl wh ml mh).L.succ.succ.succ:Option EO)=(E141 lw fw lm fm n ls f wl wh ml mh).base.objs.get (E141 lw fw lm fm n ls f wl wh ml mh).L.succ.succ.succ)∧((((E141 lw fw lm fm n ls f wl wh ml mh).base.objs.get (E141 lw fw lm fm n ls f wl wh ml mh).L.succ.succ.succ.succ:Option EO)=(E141 lw fw lm fm n ls f wl wh ml mh).base.objs.get (E141 lw fw lm fm n ls f wl wh ml mh).L.succ.succ.succ.succ)∧True))))∧True))))
theorem r1n (wl wh ml mh:Int) (a b:Int) (h:b≤mh) (hs : -1000≤b∧b≤1000) (hk:stOkB lw fw lm fm n ls f a b=true):VC (pieceD Tryz.prog XT2 300 (E141 lw fw lm fm n ls f wl wh ml mh) none b2 ⟨t5,g0 (l5 a b)⟩ .normal ⟨t5,gT (l5 a (b+1)) 1 (up (fun _=>none) 0 (strI lw fw lm fm f a b)) true⟩) (.go 325 .nil):=VC_of (((iLe b mh)=true∧((cond true (cond (cond (okTb 13 lw fw lm fm n ls f) true false) (stOkB lw fw lm fm n ls f a b) false) false)=true∧((small (b+(1)))=true∧((((V.yld 11:V)=V.yld 11)∧((((V.ptr 8 0):V)=(V.ptr 8 0))∧((((V.ptr 9 0):V)=(V.ptr 9 0))∧(((a:Int)=a)∧((((b+(1)):Int)=(b+(1)))∧True)))))∧((((((V.slice 12 0 1 1):V)=(V.slice 12 0 1 1))∧True)∧True)∧(((((E141 lw fw lm fm n ls f wl wh ml mh).base.objs.get (E141 lw fw lm fm n ls f wl wh ml mh).L.succ:Option EO)=(E141 lw fw lm fm n ls f wl wh ml mh).base.objs.get (E141 lw fw lm fm n ls f wl wh ml mh).L.succ)∧((((E141 lw fw lm fm n ls f wl wh ml mh).base.objs.get (E141 lw fw lm fm n ls f wl wh ml mh).L.succ.succ:Option EO)=(E141 lw fw lm fm n ls f wl wh ml mh).base.objs.get (E141 lw fw lm fm n ls f wl wh ml mh).L.succ.succ)∧((((E141 lw fw lm fm n ls f wl wh ml mh).base.objs.get (E141 lw fw lm fm n ls f wl wh ml mh).L.succ.succ.succ:Option EO)=(E141 lw fw lm fm n ls f wl wh ml mh).base.objs.get (E141 lw fw lm fm n ls f wl wh ml mh).L.succ.succ.succ)∧((((E141 lw fw lm fm n ls f wl wh ml mh).base.objs.get (E141 lw fw lm fm n ls f wl wh ml mh).L.succ.succ.succ.succ:Option EO)=(E141 lw fw lm fm n ls f wl wh ml mh).base.objs.get (E141 lw fw lm fm n ls f wl wh ml mh).L.succ.succ.succ.succ)∧True))))∧(((((1:Nat):Int):Int)=((1:Nat):Int))∧((((strI lw fw lm fm f a b):Int)=(strI lw fw lm fm f a b))∧True)))))))))
theorem o1 (wl wh ml mh:Int) (a:Int) (T:Nat) (F:Nat→Option V) (h:a≤wh):VC (pieceD Tryz.prog XT2 300 (E141 lw fw lm fm n ls f wl wh ml mh) none (sub [0] b1) ⟨t4,gT (l4 a) T F false⟩ .normal ⟨t4,gT (l4 a) T F false⟩) (.go 5 .nil):=VC_of (((iLe a wh)=true∧((((V.yld 11:V)=V.yld 11)∧((((V.ptr 8 0):V)=(V.ptr 8 0))∧((((V.ptr 9 0):V)=(V.ptr 9 0))∧(((a:Int)=a)∧True))))∧((((((V.slice 12 0 T 1):V)=(V.slice 12 0 T 1))∧True)∧True)∧(((((E141 lw fw lm fm n ls f wl wh ml mh).base.objs.get (E141 lw fw lm fm n ls f wl wh ml mh).L.succ:Option EO)=(E141 lw fw lm fm n ls f wl wh ml mh).base.objs.get (E141 lw fw lm fm n ls f wl wh ml mh).L.succ)∧((((E141 lw fw lm fm n ls f wl wh ml mh).base.objs.get (E141 lw fw lm fm n ls f wl wh ml mh).L.succ.succ:Option EO)=(E141 lw fw lm fm n ls f wl wh ml mh).base.objs.get (E141 lw fw lm fm n ls f wl wh ml mh).L.succ.succ)∧((((E141 lw fw lm fm n ls f wl wh ml mh).base.objs.get (E141 lw fw lm fm n ls f wl wh ml mh).L.succ.succ.succ:Option EO)=(E141 lw fw lm fm n ls f wl wh ml mh).base.objs.get (E141 lw fw lm fm n ls f wl wh ml mh).L.succ.succ.succ)∧((((E141 lw fw lm fm n ls f wl wh ml mh).base.objs.get (E141 lw fw lm fm n ls f wl wh ml mh).L.succ.succ.succ.succ:Option EO)=(E141 lw fw lm fm n ls f wl wh ml mh).base.objs.get (E141 lw fw lm fm n ls f wl wh ml mh).L.succ.succ.succ.succ)∧True))))∧(((((T:Nat):Int):Int)=((T:Nat):Int))∧(((accS T F false).c:Ev.T V)=(accS T F false).c)))))))
theorem o1x (wl wh ml mh:Int) (a:Int) (T:Nat) (F:Nat→Option V) (h:¬ a≤wh):VC (pieceD Tryz.prog XT2 300 (E141 lw fw lm fm n ls f wl wh ml mh) none (sub [0] b1) ⟨t4,gT (l4 a) T F false⟩ (.exit 0) ⟨[],gT [] T F false⟩) (.go 6 .nil):=VC_of (((iLe a wh)=false∧(True∧((((((V.slice 12 0 T 1):V)=(V.slice 12 0 T 1))∧True)∧True)∧(((((E141 lw fw lm fm n ls f wl wh ml mh).base.objs.get (E141 lw fw lm fm n ls f wl wh ml mh).L.succ:Option EO)=(E141 lw fw lm fm n ls f wl wh ml mh).base.objs.get (E141 lw fw lm fm n ls f wl wh ml mh).L.succ)∧((((E141 lw fw lm fm n ls f wl wh ml mh).base.objs.get (E141 lw fw lm fm n ls f wl wh ml mh).L.succ.succ:Option EO)=(E141 lw fw lm fm n ls f wl wh ml mh).base.objs.get (E141 lw fw lm fm n ls f wl wh ml mh).L.succ.succ)∧((((E141 lw fw lm fm n ls f wl wh ml mh).base.objs.get (E141 lw fw lm fm n ls f wl wh ml mh).L.succ.succ.succ:Option EO)=(E141 lw fw lm fm n ls f wl wh ml mh).base.objs.get (E141 lw fw lm fm n ls f wl wh ml mh).L.succ.succ.succ)∧((((E141 lw fw lm fm n ls f wl wh ml mh).base.objs.get (E141 lw fw lm fm n ls f wl wh ml mh).L.succ.succ.succ.succ:Option EO)=(E141 lw fw lm fm n ls f wl wh ml mh).base.objs.get (E141 lw fw lm fm n ls f wl wh ml mh).L.succ.succ.succ.succ)∧True))))∧(((((T:Nat):Int):Int)=((T:Nat):Int))∧(((accS T F false).c:Ev.T V)=(accS T F false).c)))))))
theorem o2 (wl wh ml mh:Int) (a:Int) (T:Nat) (F:Nat→Option V):VC (pieceD Tryz.prog XT2 300 (E141 lw fw lm fm n ls f wl wh ml mh) none (sub [1,0,0,0] b1) ⟨t4,gT (l4 a) T F false⟩ .normal ⟨t5,gT (l5 a ml) T F false⟩) .nil:=VC_of (((((V.yld 11:V)=V.yld 11)∧((((V.ptr 8 0):V)=(V.ptr 8 0))∧((((V.ptr 9 0):V)=(V.ptr 9 0))∧(((a:Int)=a)∧(((ml:Int)=ml)∧True)))))∧((((((V.slice 12 0 T 1):V)=(V.slice 12 0 T 1))∧True)∧True)∧(((((E141 lw fw lm fm n ls f wl wh ml mh).base.objs.get (E141 lw fw lm fm n ls f wl wh ml mh).L.succ:Option EO)=(E141 lw fw lm fm n ls f wl wh ml mh).base.objs.get (E141 lw fw lm fm n ls f wl wh ml mh).L.succ)∧((((E141 lw fw lm fm n ls f wl wh ml mh).base.objs.get (E141 lw fw lm fm n ls f wl wh ml mh).L.succ.succ:Option EO)=(E141 lw fw lm fm n ls f wl wh ml mh).base.objs.get (E141 lw fw lm fm n ls f wl wh ml mh).L.succ.succ)∧((((E141 lw fw lm fm n ls f wl wh ml mh).base.objs.get (E141 lw fw lm fm n ls f wl wh ml mh).L.succ.succ.succ:Option EO)=(E141 lw fw lm fm n ls f wl wh ml mh).base.objs.get (E141 lw fw lm fm n ls f wl wh ml mh).L.succ.succ.succ)∧((((E141 lw fw lm fm n ls f wl wh ml mh).base.objs.get (E141 lw fw lm fm n ls f wl wh ml mh).L.succ.succ.succ.succ:Option EO)=(E141 lw fw lm fm n ls f wl wh ml mh).base.objs.get (E141 lw fw lm fm n ls f wl wh ml mh).L.succ.succ.succ.succ)∧True))))∧(((((T:Nat):Int):Int)=((T:Nat):Int))∧(((accS T F false).c:Ev.T V)=(accS T F false).c))))))
theorem r1 (wl wh ml mh:Int) (a b:Int) (T:Nat) (F:Nat→Option V) (hT:T≤100000) (h:b≤mh) (hs : -1000≤b∧b≤1000) (hk:stOkB lw fw lm fm n ls f a b=true):VC (pieceD Tryz.prog XT2 300 (E141 lw fw lm fm n ls f wl wh ml mh) none b2 ⟨t5,gT (l5 a b) T F false⟩ .normal ⟨t5,gT (l5 a (b+1)) (T+1) (up F T (strI lw fw lm fm f a b)) false⟩) (.go 5205 .nil):=VC_of (((iLe b mh)=true∧((cond true (cond (cond (okTb 13 lw fw lm fm n ls f) true false) (stOkB lw fw lm fm n ls f a b) false) false)=true∧((cond (Nat.ble (((2*(T+1))+200)*8) 281474976710656) (cond (Nat.ble (T+1) 281474976710656) true false) false)=true∧((Nat.ble T T)=true∧((small (b+(1)))=true∧((((V.yld 11:V)=V.yld 11)∧((((V.ptr 8 0):V)=(V.ptr 8 0))∧((((V.ptr 9 0):V)=(V.ptr 9 0))∧(((a:Int)=a)∧((((b+(1)):Int)=(b+(1)))∧True)))))∧((((((V.slice 12 0 (T+1) 1):V)=(V.slice 12 0 (T+1) 1))∧True)∧True)∧(((((E141 lw fw lm fm n ls f wl wh ml mh).base.objs.get (E141 lw fw lm fm n ls f wl wh ml mh).L.succ:Option EO)=(E141 lw fw lm fm n ls f wl wh ml mh).base.objs.get (E141 lw fw lm fm n ls f wl wh ml mh).L.succ)∧((((E141 lw fw lm fm n ls f wl wh ml mh).base.objs.get (E141 lw fw lm fm n ls f wl wh ml mh).L.succ.succ:Option EO)=(E141 lw fw lm fm n ls f wl wh ml mh).base.objs.get (E141 lw fw lm fm n ls f wl wh ml mh).L.succ.succ)∧((((E141 lw fw lm fm n ls f wl wh ml mh).base.objs.get (E141 lw fw lm fm n ls f wl wh ml mh).L.succ.succ.succ:Option EO)=(E141 lw fw lm fm n ls f wl wh ml mh).base.objs.get (E141 lw fw lm fm n ls f wl wh ml mh).L.succ.succ.succ)∧((((E141 lw fw lm fm n ls f wl wh ml mh).base.objs.get (E141 lw fw lm fm n ls f wl wh ml mh).L.succ.succ.succ.succ:Option EO)=(E141 lw fw lm fm n ls f wl wh ml mh).base.objs.get (E141 lw fw lm fm n ls f wl wh ml mh).L.succ.succ.succ.succ)∧True))))∧((((((T+1):Nat):Int):Int)=(((T+1):Nat):Int))∧(((accS (T+1) (up F T (strI lw fw lm fm f a b)) false).c:Ev.T V)=(accS (T+1) (up F T (strI lw fw lm fm f a b)) false).c)))))))))))
theorem r1x (wl wh ml mh:Int) (a b:Int) (T:Nat) (F:Nat→Option V) (h:¬ b≤mh):VC (pieceD Tryz.prog XT2 300 (E141 lw fw lm fm n ls f wl wh ml mh) none b2 ⟨t5,gT (l5 a b) T F false⟩ (.exit 2) ⟨t4,gT (l4 a) T F false⟩) (.go 6 .nil):=VC_of (((iLe b mh)=false∧((((V.yld 11:V)=V.yld 11)∧((((V.ptr 8 0):V)=(V.ptr 8 0))∧((((V.ptr 9 0):V)=(V.ptr 9 0))∧(((a:Int)=a)∧True))))∧((((((V.slice 12 0 T 1):V)=(V.slice 12 0 T 1))∧True)∧True)∧(((((E141 lw fw lm fm n ls f wl wh ml mh).base.objs.get (E141 lw fw lm fm n ls f wl wh ml mh).L.succ:Option EO)=(E141 lw fw lm fm n ls f wl wh ml mh).base.objs.get (E141 lw fw lm fm n ls f wl wh ml mh).L.succ)∧((((E141 lw fw lm fm n ls f wl wh ml mh).base.objs.get (E141 lw fw lm fm n ls f wl wh ml mh).L.succ.succ:Option EO)=(E141 lw fw lm fm n ls f wl wh ml mh).base.objs.get (E141 lw fw lm fm n ls f wl wh ml mh).L.succ.succ)∧((((E141 lw fw lm fm n ls f wl wh ml mh).base.objs.get (E141 lw fw lm fm n ls f wl wh ml mh).L.succ.succ.succ:Option EO)=(E141 lw fw lm fm n ls f wl wh ml mh).base.objs.get (E141 lw fw lm fm n ls f wl wh ml mh).L.succ.succ.succ)∧((((E141 lw fw lm fm n ls f wl wh ml mh).base.objs.get (E141 lw fw lm fm n ls f wl wh ml mh).L.succ.succ.succ.succ:Option EO)=(E141 lw fw lm fm n ls f wl wh ml mh).base.objs.get (E141 lw fw lm fm n ls f wl wh ml mh).L.succ.succ.succ.succ)∧True))))∧(((((T:Nat):Int):Int)=((T:Nat):Int))∧(((accS T F false).c:Ev.T V)=(accS T F false).c)))))))
theorem o3 (wl wh ml mh:Int) (a:Int) (T:Nat) (F:Nat→Option V) (hs : -1000≤a∧a≤1000):VC (pieceD Tryz.prog XT2 300 (E141 lw fw lm fm n ls f wl wh ml mh) none (sub [1,1] b1) ⟨t4,gT (l4 a) T F false⟩ .normal ⟨t4,gT (l4 (a+1)) T F false⟩) (.go 5 .nil):=VC_of (((small (a+(1)))=true∧((((V.yld 11:V)=V.yld 11)∧((((V.ptr 8 0):V)=(V.ptr 8 0))∧((((V.ptr 9 0):V)=(V.ptr 9 0))∧((((a+(1)):Int)=(a+(1)))∧True))))∧((((((V.slice 12 0 T 1):V)=(V.slice 12 0 T 1))∧True)∧True)∧(((((E141 lw fw lm fm n ls f wl wh ml mh).base.objs.get (E141 lw fw lm fm n ls f wl wh ml mh).L.succ:Option EO)=(E141 lw fw lm fm n ls f wl wh ml mh).base.objs.get (E141 lw fw lm fm n ls f wl wh ml mh).L.succ)∧((((E141 lw fw lm fm n ls f wl wh ml mh).base.objs.get (E141 lw fw lm fm n ls f wl wh ml mh).L.succ.succ:Option EO)=(E141 lw fw lm fm n ls f wl wh ml mh).base.objs.get (E141 lw fw lm fm n ls f wl wh ml mh).L.succ.succ)∧((((E141 lw fw lm fm n ls f wl wh ml mh).base.objs.get (E141 lw fw lm fm n ls f wl wh ml mh).L.succ.succ.succ:Option EO)=(E141 lw fw lm fm n ls f wl wh ml mh).base.objs.get (E141 lw fw lm fm n ls f wl wh ml mh).L.succ.succ.succ)∧((((E141 lw fw lm fm n ls f wl wh ml mh).base.objs.get (E141 lw fw lm fm n ls f wl wh ml mh).L.succ.succ.succ.succ:Option EO)=(E141 lw fw lm fm n ls f wl wh ml mh).base.objs.get (E141 lw fw lm fm n ls f wl wh ml mh).L.succ.succ.succ.succ)∧True))))∧(((((T:Nat):Int):Int)=((T:Nat):Int))∧(((accS T F false).c:Ev.T V)=(accS T F false).c)))))))
end
end Go.Proofs.YtclagbonpachfaaGreat
/- Tables: the strengths at all points of two ranges, as a contract. -/
namespace Go.Proofs.YtclagbonpachfaaGreat
open Go Go.Ev
set_option maxRecDepth 1000000
noncomputable section
section
variable (lw:Nat) (fw:Nat→Nat→Int) (lm:Nat) (fm:Nat→Nat→Int) (n:Nat) (ls:Nat→Nat) (f:Nat→Nat→Nat→Int) (wl wh ml mh:Int)
def nM:Nat:=Int.toNat (mh-ml+1)
def nW:Nat:=Int.toNat (wh-wl+1)
def valsS (t:Nat):Int:=strI lw fw lm fm f (wl+((t/nM ml mh:Nat):Int)) (ml+((t%nM ml mh:Nat):Int))
def FS (t:Nat):Nat→Option V:=Nat.rec (fun _=>none) (fun t ih=>up ih t (valsS lw fw lm fm f wl ml mh t)) t
theorem FS_get:∀ {T i:Nat},i<T→FS lw fw lm fm f wl ml mh T i=some (.int .i64 (valsS lw fw lm fm f wl ml mh i)):=by
  intro T
  induction T with
  | zero=>intro i hi;omega
  | succ T ih =>
    intro i hi
    show cond (Nat.beq i T) (some (.int .i64 (valsS lw fw lm fm f wl ml mh T))) (FS lw fw lm fm f wl ml mh T i)=_
    rw [cond_beq]
    by_cases e:i=T
    · rw [if_pos e,e]
    · rw [if_neg e,ih (by omega)]
theorem flatS (T:Nat) (lit:Bool):accFlat (some (accS T (FS lw fw lm fm f wl ml mh T) lit)):=fun i hi=>⟨_,FS_get lw fw lm fm f wl ml mh hi,rfl⟩
theorem ok0 (x:TS) (h:(E141 lw fw lm fm n ls f wl wh ml mh).okB x=true) (hn:x.s.acc=none):(E141 lw fw lm fm n ls f wl wh ml mh).ok x:=⟨h,by rw [hn];exact trivial⟩
theorem okT (ts:List Nat) (l:List V) (T:Nat) (lit:Bool) (h:(E141 lw fw lm fm n ls f wl wh ml mh).okB ⟨ts,gT l T (FS lw fw lm fm f wl ml mh T) lit⟩=true):(E141 lw fw lm fm n ls f wl wh ml mh).ok ⟨ts,gT l T (FS lw fw lm fm f wl ml mh T) lit⟩:=⟨h,flatS lw fw lm fm f wl ml mh T lit⟩
def ptsOk:Prop:=wl≤wh∧ml≤mh∧0≤wl∧wh≤100∧0≤ml∧mh≤100∧∀ a b,wl≤a→a≤wh→ml≤b→b≤mh→stOkB lw fw lm fm n ls f a b=true
theorem nM_eq (h:ml≤mh):(nM ml mh:Int)=mh-ml+1:=by unfold nM;omega
theorem val_at {i k:Nat} (h:ml≤mh) (hk:k<nM ml mh):valsS lw fw lm fm f wl ml mh (i*nM ml mh+k)=strI lw fw lm fm f (wl+i) (ml+k):=by
  unfold valsS
  have hp:0<nM ml mh:=by omega
  have e1:(i*nM ml mh+k)/nM ml mh=i:=by rw [Nat.mul_comm,Nat.mul_add_div hp,Nat.div_eq_of_lt hk];rfl
  have e2:(i*nM ml mh+k)%nM ml mh=k:=by rw [Nat.mul_comm,Nat.mul_add_mod,Nat.mod_eq_of_lt hk]
  rw [e1,e2]
theorem up_val {T:Nat} {v:Int} (h:v=valsS lw fw lm fm f wl ml mh T):up (FS lw fw lm fm f wl ml mh T) T v=FS lw fw lm fm f wl ml mh (T+1):=by rw [h];rfl
theorem inner {i:Nat} (hp:ptsOk lw fw lm fm n ls f wl wh ml mh) (hi:wl+i≤wh) (x:GS) (hx:(i=0∧x=g0 (l5 wl ml))∨(0<i∧x=gT (l5 (wl+i) ml) (i*nM ml mh) (FS lw fw lm fm f wl ml mh (i*nM ml mh)) false)) :
    JP Tryz.prog (E141 lw fw lm fm n ls f wl wh ml mh) none (.loop b2) ⟨t5,x⟩ (.exit 2) ⟨t4,gT (l4 (wl+i)) ((i+1)*nM ml mh) (FS lw fw lm fm f wl ml mh ((i+1)*nM ml mh)) false⟩:=by
  obtain ⟨h1,h2,h3,h4,h5,h6,h7⟩:=hp
  have hm:=nM_eq ml mh h2
  have hT:(i+1)*nM ml mh=i*nM ml mh+nM ml mh:=by rw [Nat.add_mul,Nat.one_mul]
  have hbd:∀ k,k≤nM ml mh→i*nM ml mh+k≤100000:=fun k hk=>by
    have:=Nat.mul_le_mul (show i≤100 by omega) (show nM ml mh≤101 by omega)
    omega
  let S:Nat→GS:=fun k=>match k with | 0=>x | k+1=>gT (l5 (wl+i) (ml+((k+1:Nat):Int))) (i*nM ml mh+(k+1)) (FS lw fw lm fm f wl ml mh (i*nM ml mh+(k+1))) false
  have hS:∀ k,0<i*nM ml mh+k→S k=gT (l5 (wl+i) (ml+(k:Int))) (i*nM ml mh+k) (FS lw fw lm fm f wl ml mh (i*nM ml mh+k)) false:=fun k hk=>by
    cases k with
    | zero =>
      show x=_
      rcases hx with ⟨e,_⟩ | ⟨_,e⟩
      · subst e;simp at hk
      · rw [e];simp
    | succ k=>rfl
  refine JP_loop (o := .exit 2) (fun q=>by cases q) (nM ml mh) S (fun k hk=>?_) ?_
  · have hv:stOkB lw fw lm fm n ls f (wl+i) (ml+k)=true:=h7 _ _ (by omega) hi (by omega) (by omega)
    by_cases h0:0<i*nM ml mh+k
    · rw [hS k h0,hS (k+1) (by omega)]
      have:=piece_of drawnC XT2_ok (okT lw fw lm fm n ls f wl wh ml mh _ _ _ false (by kernel_rfl)) (by
        rw [up_val lw fw lm fm f wl ml mh (val_at lw fw lm fm f wl ml mh h2 hk).symm]
        exact okT lw fw lm fm n ls f wl wh ml mh _ _ _ false (by kernel_rfl)) (r1 lw fw lm fm n ls f wl wh ml mh (wl+i) (ml+k) (i*nM ml mh+k) (FS lw fw lm fm f wl ml mh (i*nM ml mh+k)) (hbd k (by omega)) (by omega) (by omega) hv).ok
      rw [up_val lw fw lm fm f wl ml mh (val_at lw fw lm fm f wl ml mh h2 hk).symm] at this
      rw [show ml+((k+1:Nat):Int)=ml+k+1 by omega]
      exact this
    · have e0:i*nM ml mh+k=0:=by omega
      have ek:k=0:=by omega
      subst ek
      have ei:i=0:=by
        rcases hx with ⟨e,_⟩ | ⟨e,_⟩
        · exact e
        · have:=Nat.mul_pos e (show 0<nM ml mh by omega);omega
      subst ei
      have ex:x=g0 (l5 wl ml):=by
        rcases hx with ⟨_,e⟩ | ⟨e,_⟩
        · exact e
        · omega
      have e1:S 0=g0 (l5 wl ml):=ex
      have hz:strI lw fw lm fm f wl ml=valsS lw fw lm fm f wl ml mh 0:=by
        have:=val_at (i:=0) (k:=0) lw fw lm fm f wl ml mh h2 (by omega)
        simp at this;exact this.symm
      have hv':stOkB lw fw lm fm n ls f wl ml=true:=h7 _ _ (by omega) h1 (by omega) h2
      have:=piece_of drawnC XT2_ok (ok0 lw fw lm fm n ls f wl wh ml mh ⟨t5,g0 (l5 wl ml)⟩ (by kernel_rfl) rfl) (by
        rw [show (up (fun _=>none) 0 (strI lw fw lm fm f wl ml))=FS lw fw lm fm f wl ml mh 1 by rw [hz];rfl]
        exact okT lw fw lm fm n ls f wl wh ml mh _ _ _ true (by kernel_rfl)) (r1n lw fw lm fm n ls f wl wh ml mh wl ml h2 (by omega) hv').ok
      rw [show (up (fun _=>none) 0 (strI lw fw lm fm f wl ml))=FS lw fw lm fm f wl ml mh 1 by rw [hz];rfl] at this
      rw [e1,hS 1 (by omega)]
      simp only [Nat.zero_mul,Nat.zero_add] at this ⊢
      rw [show wl+((0:Nat):Int)=wl by omega,show ml+((1:Nat):Int)=ml+1 by omega]
      exact this
  · rw [hS (nM ml mh) (by omega),hT]
    exact piece_of drawnC XT2_ok (okT lw fw lm fm n ls f wl wh ml mh _ _ _ false (by kernel_rfl)) (okT lw fw lm fm n ls f wl wh ml mh _ _ _ false (by kernel_rfl)) (r1x lw fw lm fm n ls f wl wh ml mh (wl+i) (ml+(nM ml mh:Nat)) (i*nM ml mh+nM ml mh) (FS lw fw lm fm f wl ml mh (i*nM ml mh+nM ml mh)) (by omega)).ok
theorem outer (hp:ptsOk lw fw lm fm n ls f wl wh ml mh):JP Tryz.prog (E141 lw fw lm fm n ls f wl wh ml mh) none (.loop b1) ⟨t4,g0 (l4 wl)⟩ (.exit 0) ⟨[],gT [] (nW wl wh*nM ml mh) (FS lw fw lm fm f wl ml mh (nW wl wh*nM ml mh)) false⟩:=by
  have hp0:=hp
  obtain ⟨h1,h2,h3,h4,h5,h6,h7⟩:=hp
  have hm:=nM_eq ml mh h2
  have hw:(nW wl wh:Int)=wh-wl+1:=nM_eq wl wh h1
  let S:Nat→GS:=fun k=>match k with | 0=>g0 (l4 wl) | k+1=>gT (l4 (wl+((k+1:Nat):Int))) ((k+1)*nM ml mh) (FS lw fw lm fm f wl ml mh ((k+1)*nM ml mh)) false
  have hS:∀ k,0<k→S k=gT (l4 (wl+(k:Int))) (k*nM ml mh) (FS lw fw lm fm f wl ml mh (k*nM ml mh)) false:=fun k hk=>by
    cases k with
    | zero=>omega
    | succ k=>rfl
  have e2:b1 = .seq (sub [0] b1) (.seq (.block 1 (.seq (sub [1,0,0,0] b1) (.block 2 (.loop b2)))) (sub [1,1] b1)):=by kernel_rfl
  refine JP_loop (o := .exit 0) (fun q=>by cases q) (nW wl wh) S (fun k hk=>?_) ?_
  · refine JP_eq e2 ?_
    have hin:∀ x,(k=0∧x=g0 (l5 wl ml))∨(0<k∧x=gT (l5 (wl+k) ml) (k*nM ml mh) (FS lw fw lm fm f wl ml mh (k*nM ml mh)) false)→JP Tryz.prog (E141 lw fw lm fm n ls f wl wh ml mh) none (.block 2 (.loop b2)) ⟨t5,x⟩ .normal ⟨t4,gT (l4 (wl+k)) ((k+1)*nM ml mh) (FS lw fw lm fm f wl ml mh ((k+1)*nM ml mh)) false⟩:=fun x hx =>
      JP_exitB (inner lw fw lm fm n ls f wl wh ml mh hp0 (by omega) x hx)
    have h3':JP Tryz.prog (E141 lw fw lm fm n ls f wl wh ml mh) none (sub [1,1] b1) ⟨t4,gT (l4 (wl+k)) ((k+1)*nM ml mh) (FS lw fw lm fm f wl ml mh ((k+1)*nM ml mh)) false⟩ .normal ⟨t4,S (k+1)⟩:=by
      rw [hS (k+1) (by omega),show wl+((k+1:Nat):Int)=wl+k+1 by omega]
      exact piece_of drawnC XT2_ok (okT lw fw lm fm n ls f wl wh ml mh _ _ _ false (by kernel_rfl)) (okT lw fw lm fm n ls f wl wh ml mh _ _ _ false (by kernel_rfl)) (o3 lw fw lm fm n ls f wl wh ml mh (wl+k) ((k+1)*nM ml mh) (FS lw fw lm fm f wl ml mh ((k+1)*nM ml mh)) (by omega)).ok
    cases k with
    | zero =>
      refine JP_seqN (y:=⟨t4,g0 (l4 wl)⟩) (piece_of drawnC XT2_ok (ok0 lw fw lm fm n ls f wl wh ml mh _ (by kernel_rfl) rfl) (ok0 lw fw lm fm n ls f wl wh ml mh _ (by kernel_rfl) rfl) (o1n lw fw lm fm n ls f wl wh ml mh wl h1).ok) (JP_seqN (JP_block (o := .normal) (JP_seqN (y:=⟨t5,g0 (l5 wl ml)⟩) (piece_of drawnC XT2_ok (ok0 lw fw lm fm n ls f wl wh ml mh _ (by kernel_rfl) rfl) (ok0 lw fw lm fm n ls f wl wh ml mh _ (by kernel_rfl) rfl) (o2n lw fw lm fm n ls f wl wh ml mh wl).ok) (hin _ (.inl ⟨rfl,rfl⟩)))) h3')
    | succ k =>
      rw [hS (k+1) (by omega)]
      have okk:∀ ts l,(E141 lw fw lm fm n ls f wl wh ml mh).okB ⟨ts,gT l ((k+1)*nM ml mh) (FS lw fw lm fm f wl ml mh ((k+1)*nM ml mh)) false⟩=true→(E141 lw fw lm fm n ls f wl wh ml mh).ok ⟨ts,gT l ((k+1)*nM ml mh) (FS lw fw lm fm f wl ml mh ((k+1)*nM ml mh)) false⟩:=fun ts l h=>okT lw fw lm fm n ls f wl wh ml mh ts l _ false h
      refine JP_seqN (y:=⟨t4,gT (l4 (wl+((k+1:Nat):Int))) ((k+1)*nM ml mh) (FS lw fw lm fm f wl ml mh ((k+1)*nM ml mh)) false⟩) (piece_of drawnC XT2_ok (okk _ _ (by kernel_rfl)) (okk _ _ (by kernel_rfl)) (o1 lw fw lm fm n ls f wl wh ml mh (wl+((k+1:Nat):Int)) ((k+1)*nM ml mh) _ (by omega)).ok)
        (JP_seqN (JP_block (o := .normal) (JP_seqN (y:=⟨t5,gT (l5 (wl+((k+1:Nat):Int)) ml) ((k+1)*nM ml mh) (FS lw fw lm fm f wl ml mh ((k+1)*nM ml mh)) false⟩) (piece_of drawnC XT2_ok (okk _ _ (by kernel_rfl)) (okk _ _ (by kernel_rfl)) (o2 lw fw lm fm n ls f wl wh ml mh (wl+((k+1:Nat):Int)) ((k+1)*nM ml mh) _).ok) (hin _ (.inr ⟨by omega,rfl⟩)))) h3')
  · rw [hS (nW wl wh) (by omega)]
    exact JP_eq e2 (JP_seqX (piece_of drawnC XT2_ok (okT lw fw lm fm n ls f wl wh ml mh _ _ _ false (by kernel_rfl)) (okT lw fw lm fm n ls f wl wh ml mh _ _ _ false (by kernel_rfl)) (o1x lw fw lm fm n ls f wl wh ml mh (wl+(nW wl wh:Nat)) (nW wl wh*nM ml mh) _ (by omega)).ok) (fun q=>by cases q))
theorem whole (hp:ptsOk lw fw lm fm n ls f wl wh ml mh):JP Tryz.prog (E141 lw fw lm fm n ls f wl wh ml mh) none bP ⟨t3,g0 l3⟩ .normal ⟨[],gT [] (nW wl wh*nM ml mh) (FS lw fw lm fm f wl ml mh (nW wl wh*nM ml mh)) false⟩:=by
  have e:bP = .seq (sub [0] bP) (.block 0 (.loop b1)):=by kernel_rfl
  exact JP_eq e (JP_seqN (y:=⟨t4,g0 (l4 wl)⟩) (piece_of drawnC XT2_ok (ok0 lw fw lm fm n ls f wl wh ml mh _ (by kernel_rfl) rfl) (ok0 lw fw lm fm n ls f wl wh ml mh _ (by kernel_rfl) rfl) (p0 lw fw lm fm n ls f wl wh ml mh).ok) (JP_exitB (outer lw fw lm fm n ls f wl wh ml mh hp)))
end
end
end Go.Proofs.YtclagbonpachfaaGreat
/- Tables: the strengths at all points of two ranges: the contract. -/
namespace Go.Proofs.YtclagbonpachfaaGreat
open Go Go.Ev
set_option maxRecDepth 1000000
noncomputable section
variable (lw:Nat) (fw:Nat→Nat→Int) (lm:Nat) (fm:Nat→Nat→Int) (n:Nat) (ls:Nat→Nat) (f:Nat→Nat→Nat→Int)
def args141:List V:=[.yld 11,.ptr 8 0,.ptr 9 0]
def r102 (lw:Nat) (fw:Nat→Nat→Int) (lm:Nat) (fm:Nat→Nat→Int) (n:Nat) (ls:Nat→Nat) (f:Nat→Nat→Nat→Int) (wl wh ml mh:Int) (T:Nat) (F:Nat→Option V):Res := .normal ⟨(aS lw fw lm fm n ls f wl wh ml mh).tm,(aS lw fw lm fm n ls f wl wh ml mh).n,(hS lw fw lm fm n ls f wl wh ml mh).next::(aS lw fw lm fm n ls f wl wh ml mh).df⟩ (setLoop (gsH (baseS lw fw lm fm n ls f wl wh ml mh) 100 (minN 7 (baseS lw fw lm fm n ls f wl wh ml mh).low) (gT [] T F false)) (Nat.succ (hS lw fw lm fm n ls f wl wh ml mh).next) .exhausted none (aS lw fw lm fm n ls f wl wh ml mh).tm (aS lw fw lm fm n ls f wl wh ml mh).n (rfPs cS) (rfAs cS) (rfBd cS) (hS lw fw lm fm n ls f wl wh ml mh).next)
theorem en (wl wh ml mh:Int):VC (D.leaf ((E141 lw fw lm fm n ls f wl wh ml mh).pack ⟨t3,g0 l3⟩ ⟨initT false args141,27,[]⟩ (lowTo (baseS lw fw lm fm n ls f wl wh ml mh) big))) .nil:=VC_of (((((V.yld 11:V)=V.yld 11)∧((((V.ptr 8 0):V)=(V.ptr 8 0))∧((((V.ptr 9 0):V)=(V.ptr 9 0))∧True)))∧(((((V.nilSlice:V)=V.nilSlice)∧True)∧True)∧(((((E141 lw fw lm fm n ls f wl wh ml mh).base.objs.get (E141 lw fw lm fm n ls f wl wh ml mh).L.succ:Option EO)=(E141 lw fw lm fm n ls f wl wh ml mh).base.objs.get (E141 lw fw lm fm n ls f wl wh ml mh).L.succ)∧((((E141 lw fw lm fm n ls f wl wh ml mh).base.objs.get (E141 lw fw lm fm n ls f wl wh ml mh).L.succ.succ:Option EO)=(E141 lw fw lm fm n ls f wl wh ml mh).base.objs.get (E141 lw fw lm fm n ls f wl wh ml mh).L.succ.succ)∧((((E141 lw fw lm fm n ls f wl wh ml mh).base.objs.get (E141 lw fw lm fm n ls f wl wh ml mh).L.succ.succ.succ:Option EO)=(E141 lw fw lm fm n ls f wl wh ml mh).base.objs.get (E141 lw fw lm fm n ls f wl wh ml mh).L.succ.succ.succ)∧((((E141 lw fw lm fm n ls f wl wh ml mh).base.objs.get (E141 lw fw lm fm n ls f wl wh ml mh).L.succ.succ.succ.succ:Option EO)=(E141 lw fw lm fm n ls f wl wh ml mh).base.objs.get (E141 lw fw lm fm n ls f wl wh ml mh).L.succ.succ.succ.succ)∧True))))∧True))))
theorem fr (wl wh ml mh:Int) (T:Nat) (F:Nat→Option V):VC (goFromK Tryz.prog kD XT2 (.leaf False) 300 none pS (bodyOf Tryz.prog 107) (r102 lw fw lm fm n ls f wl wh ml mh T F) (fun r => .leaf (resD Tryz.prog 107 (rowIs 12 T (.fn F)) r))) .nil:=VC_of (((((V.slice 12 0 T 1):V)=(V.slice 12 0 T 1))∧(((((T:Nat):Int):Int)=((T:Nat):Int))∧((Ev.T.fn F:Ev.T V)=Ev.T.fn F))))
theorem toS (lw:Nat) (fw:Nat→Nat→Int) (lm:Nat) (fm:Nat→Nat→Int) (n:Nat) (ls:Nat→Nat) (f:Nat→Nat→Nat→Int) (wl wh ml mh:Int):toLoop Tryz.prog XT2 300 107 pS (dasS lw fw lm fm n ls f wl wh ml mh)=some (aS lw fw lm fm n ls f wl wh ml mh,hS lw fw lm fm n ls f wl wh ml mh):=by kernel_rfl
theorem sp141 (lw:Nat) (fw:Nat→Nat→Int) (lm:Nat) (fm:Nat→Nat→Int) (n:Nat) (ls:Nat→Nat) (f:Nat→Nat→Nat→Int) (wl wh ml mh:Int) (hp:ptsOk lw fw lm fm n ls f wl wh ml mh):SpecCall Tryz.prog 118 args141 (baseS lw fw lm fm n ls f wl wh ml mh) (.tup []) (gsH (baseS lw fw lm fm n ls f wl wh ml mh) 100 (minN 7 (baseS lw fw lm fm n ls f wl wh ml mh).low) (gT [] (nW wl wh*nM ml mh) (FS lw fw lm fm f wl ml mh (nW wl wh*nM ml mh)) false)):=by
  have hJ:=J_of_JP (P:=Tryz.prog) (ok0 lw fw lm fm n ls f wl wh ml mh ⟨t3,g0 l3⟩ (by kernel_rfl) rfl) (show (E141 lw fw lm fm n ls f wl wh ml mh).pack ⟨t3,g0 l3⟩ ⟨initT false args141,27,[]⟩ (lowTo (baseS lw fw lm fm n ls f wl wh ml mh) big) from (en lw fw lm fm n ls f wl wh ml mh).ok) (whole lw fw lm fm n ls f wl wh ml mh hp)
  exact call_of (P:=Tryz.prog) (g:=118) false (by kernel_rfl) hJ (by kernel_rfl)
def ptsB (lw:Nat) (fw:Nat→Nat→Int) (lm:Nat) (fm:Nat→Nat→Int) (n:Nat) (ls:Nat→Nat) (f:Nat→Nat→Nat→Int) (wl wh ml mh:Int):Bool:=cond (iLe wl wh) (cond (iLe ml mh) (cond (iLe 0 wl) (cond (iLe wh 100) (cond (iLe 0 ml) (cond (iLe mh 100) (allN (fun i=>allN (fun k=>stOkB lw fw lm fm n ls f (wl+i) (ml+k)) (nM ml mh)) (nW wl wh)) false) false) false) false) false) false
theorem ptsB_t (lw:Nat) (fw:Nat→Nat→Int) (lm:Nat) (fm:Nat→Nat→Int) (n:Nat) (ls:Nat→Nat) (f:Nat→Nat→Nat→Int) (wl wh ml mh:Int) (h:ptsB lw fw lm fm n ls f wl wh ml mh=true):ptsOk lw fw lm fm n ls f wl wh ml mh:=by
  obtain ⟨h1,h⟩:=cond_tt h
  obtain ⟨h2,h⟩:=cond_tt h
  obtain ⟨h3,h⟩:=cond_tt h
  obtain ⟨h4,h⟩:=cond_tt h
  obtain ⟨h5,h⟩:=cond_tt h
  obtain ⟨h6,h7⟩:=cond_tt h
  rw [iLe_t] at h1 h2 h3 h4 h5 h6
  refine ⟨h1,h2,h3,h4,h5,h6,fun a b ha hb hc hd=>?_⟩
  have hm:=nM_eq ml mh h2
  have hw:(nW wl wh:Int)=wh-wl+1:=nM_eq wl wh h1
  have:=allN_get (allN_get h7 (Int.toNat (a-wl)) (by omega)) (Int.toNat (b-ml)) (by omega)
  rw [show wl+((Int.toNat (a-wl):Nat):Int)=a by omega,show ml+((Int.toNat (b-ml):Nat):Int)=b by omega] at this
  exact this
def val102:Val:=fun das=>match das with | [.st [.sl 1 lw fw,.sl 1 lm fm,.rr 1 n ls f],.st [.i .i64 wl,.i .i64 wh],.st [.i .i64 ml,.i .i64 mh]]=>some (ptsB lw fw lm fm n ls f wl wh ml mh,.fz true 0 (cellsI .i64 (fun i _=>valsS lw fw lm fm f wl ml mh i)) (nW wl wh*nM ml mh) 1) | _=>none
theorem con102:ConR Tryz.prog 107 val102:=by
  intro das x hv
  unfold val102 at hv
  split at hv
  · rename_i lw fw lm fm n ls f wl wh ml mh
    have hb:=congrArg Prod.fst (Option.some.inj hv)
    have hv:=congrArg Prod.snd (Option.some.inj hv)
    subst hv
    have hp:=ptsB_t _ _ _ _ _ _ _ _ _ _ _ hb
    have hs:=sp141 lw fw lm fm n ls f wl wh ml mh hp
    have hc:sub pS (bodyOf Tryz.prog 107) = .rangeFunc (.tmp 12) (rfPs cS) (rfAs cS) (rfBd cS):=by kernel_rfl
    have hJ:=J_range drawnC (g := .tmp 12) (ps:=rfPs cS) (asg:=rfAs cS) (bd:=rfBd cS) (a:=aS lw fw lm fm n ls f wl wh ml mh) (H:=hS lw fw lm fm n ls f wl wh ml mh) (f:=118) (first:=[]) (captured:=[.ptr 8 0,.ptr 9 0]) (st := .ready) (tm:=(aS lw fw lm fm n ls f wl wh ml mh).tm) (n:=(aS lw fw lm fm n ls f wl wh ml mh).n) (ps2:=rfPs cS) (as2:=rfAs cS) (bd2:=rfBd cS) (df:=(hS lw fw lm fm n ls f wl wh ml mh).next) (by kernel_rfl) (by
      have e:app3 [] [V.yld (Nat.succ (hS lw fw lm fm n ls f wl wh ml mh).next)] [.ptr 8 0,.ptr 9 0]=args141:=by kernel_rfl
      rw [e];exact hs) (by kernel_rfl) rfl
    rw [← hc] at hJ
    obtain ⟨v',H',q1,q2⟩:=con_at (das:=dasS lw fw lm fm n ls f wl wh ml mh) (φ:=rowIs 12 (nW wl wh*nM ml mh) (.fn (FS lw fw lm fm f wl ml mh (nW wl wh*nM ml mh)))) drawnC XT2_ok (by kernel_rfl) (toS lw fw lm fm n ls f wl wh ml mh) hJ (fr lw fw lm fm n ls f wl wh ml mh (nW wl wh*nM ml mh) (FS lw fw lm fm f wl ml mh (nW wl wh*nM ml mh))).ok
    exact ⟨v',H',q1,rowIs_fr q2 (f:=valsS lw fw lm fm f wl ml mh) fun i hi=>FS_get lw fw lm fm f wl ml mh hi⟩
  · cases hv
end
end Go.Proofs.YtclagbonpachfaaGreat
/- Tables: contracts: the minimum and the maximum of a row. -/
namespace Go.Proofs.YtclagbonpachfaaGreat
open Go Go.Ev
set_option maxRecDepth 1000000
noncomputable section
def minF (f:Nat→Nat→Int) (x:Int) (n:Nat):Int:=Nat.rec x (fun k ih=>min ih (f k 0)) n
def maxF (f:Nat→Nat→Int) (x:Int) (n:Nat):Int:=Nat.rec x (fun k ih=>max ih (f k 0)) n
def ltF:LT:=⟨[0,7,8,9],[0],[],2⟩
def sF (len:Nat) (f:Nat→Nat→Int) (c:Int) (k:Nat):LS:=⟨[.int .i64 c,.fz true 0 (cellsI .i64 f) len 1,.int .i64 len,.int .i64 k],[]⟩
def dasF (x:Int) (len:Nat) (f:Nat→Nat→Int):List DA:=[.one (.i .i64 x),.one (.sl 1 len f)]
def bLe:Code:=sub [1,0,1,0,0] (bodyOf Tryz.prog 108)
def bGr:Code:=sub [1,0,1,0,0] (bodyOf Tryz.prog 109)
theorem eLe (x:Int) (len:Nat) (f:Nat→Nat→Int):VC (entD Tryz.prog noExt 300 108 [1,0,1,0] (dasF x len f) (heap0 2) ltF 18 60 (sF len f x 0)) .nil:=VC_of ((True∧((((x:Int)=x)∧((((V.fz true 0 (fun i j=>V.int IntKind.i64 (f i j)) len 1):V)=(V.fz true 0 (fun i j=>V.int IntKind.i64 (f i j)) len 1))∧(((((len:Nat):Int):Int)=((len:Nat):Int))∧((((0):Int)=((0:Nat):Int))∧True))))∧True)))
theorem rLe (c:Int) (len k:Nat) (f:Nat→Nat→Int) (h1:k<len) (h2:len≤1000000):VC (roundD Tryz.prog noExt 300 bLe (heap0 2) ltF 18 60 (sF len f c k) (.next (sF len f (min c (f k 0)) (k+1)))) (.go 85 .nil):=VC_of (((not (iLe ((len:Nat):Int) ((k:Nat):Int)))=true∧((Nat.blt k len)=true∧((small (((k:Nat):Int)+(1)))=true∧(((((cond (iLe c (f k 0)) c (f k 0)):Int)=(min c (f k 0)))∧((((V.fz true 0 (fun i j=>V.int IntKind.i64 (f i j)) len 1):V)=(V.fz true 0 (fun i j=>V.int IntKind.i64 (f i j)) len 1))∧(((((len:Nat):Int):Int)=((len:Nat):Int))∧((((((k:Nat):Int)+(1)):Int)=(((k+1):Nat):Int))∧True))))∧True)))))
theorem xLe (c:Int) (len k:Nat) (f:Nat→Nat→Int) (h1:¬ k<len):VC (roundD Tryz.prog noExt 300 bLe (heap0 2) ltF 18 60 (sF len f c k) (.exit 0 ⟨[.int .i64 c],[]⟩)) (.go 6 .nil):=VC_of (((not (iLe ((len:Nat):Int) ((k:Nat):Int)))=false∧((((c:Int)=c)∧True)∧True)))
theorem fLe (c:Int):VC (fromD Tryz.prog noExt 300 108 [1,0,1,0] (Lv.res ltF 18 (endH (heap0 2) ltF 60 (.exit 0 ⟨[.int .i64 c],[]⟩)) (.exit 0 ⟨[.int .i64 c],[]⟩)) (.int .i64 c)) .nil:=VC_of (((c:Int)=c))
theorem eGr (x:Int) (len:Nat) (f:Nat→Nat→Int):VC (entD Tryz.prog noExt 300 109 [1,0,1,0] (dasF x len f) (heap0 2) ltF 18 60 (sF len f x 0)) .nil:=VC_of ((True∧((((x:Int)=x)∧((((V.fz true 0 (fun i j=>V.int IntKind.i64 (f i j)) len 1):V)=(V.fz true 0 (fun i j=>V.int IntKind.i64 (f i j)) len 1))∧(((((len:Nat):Int):Int)=((len:Nat):Int))∧((((0):Int)=((0:Nat):Int))∧True))))∧True)))
theorem rGr (c:Int) (len k:Nat) (f:Nat→Nat→Int) (h1:k<len) (h2:len≤1000000):VC (roundD Tryz.prog noExt 300 bGr (heap0 2) ltF 18 60 (sF len f c k) (.next (sF len f (max c (f k 0)) (k+1)))) (.go 85 .nil):=VC_of (((not (iLe ((len:Nat):Int) ((k:Nat):Int)))=true∧((Nat.blt k len)=true∧((small (((k:Nat):Int)+(1)))=true∧(((((cond (iLe (f k 0) c) c (f k 0)):Int)=(max c (f k 0)))∧((((V.fz true 0 (fun i j=>V.int IntKind.i64 (f i j)) len 1):V)=(V.fz true 0 (fun i j=>V.int IntKind.i64 (f i j)) len 1))∧(((((len:Nat):Int):Int)=((len:Nat):Int))∧((((((k:Nat):Int)+(1)):Int)=(((k+1):Nat):Int))∧True))))∧True)))))
theorem xGr (c:Int) (len k:Nat) (f:Nat→Nat→Int) (h1:¬ k<len):VC (roundD Tryz.prog noExt 300 bGr (heap0 2) ltF 18 60 (sF len f c k) (.exit 0 ⟨[.int .i64 c],[]⟩)) (.go 6 .nil):=VC_of (((not (iLe ((len:Nat):Int) ((k:Nat):Int)))=false∧((((c:Int)=c)∧True)∧True)))
theorem fGr (c:Int):VC (fromD Tryz.prog noExt 300 109 [1,0,1,0] (Lv.res ltF 18 (endH (heap0 2) ltF 60 (.exit 0 ⟨[.int .i64 c],[]⟩)) (.exit 0 ⟨[.int .i64 c],[]⟩)) (.int .i64 c)) .nil:=VC_of (((c:Int)=c))
def valLe:Val:=fun das=>match das with | [.one (.i .i64 x),.one (.sl 1 len f)]=>some (Nat.ble len 1000000,.int .i64 (minF f x len)) | _=>none
def valGr:Val:=fun das=>match das with | [.one (.i .i64 x),.one (.sl 1 len f)]=>some (Nat.ble len 1000000,.int .i64 (maxF f x len)) | _=>none
theorem conLe:Con Tryz.prog 108 valLe:=by
  intro das v hv
  unfold valLe at hv
  split at hv
  · rename_i x len f
    have hb:=congrArg Prod.fst (Option.some.inj hv)
    have hv:=congrArg Prod.snd (Option.some.inj hv)
    subst hv
    have hb:=Nat.le_of_ble_eq_true hb
    refine ⟨rfl,?_⟩
    exact con_loopD drawnC noExt_ok (das:=dasF x len f) (v := .int .i64 (minF f x len)) (lv := .exit 0 ⟨[.int .i64 (minF f x len)],[]⟩) (by kernel_rfl) (by kernel_rfl) (eLe x len f).ok (loop_rule (body:=bLe) (fun _ e=>by cases e) len (fun k=>sF len f (minF f x k) k) (fun k hk=>round_of drawnC noExt_ok (rLe (minF f x k) len k f hk hb).ok (by kernel_rfl) (by kernel_rfl)) (round_of drawnC noExt_ok (xLe (minF f x len) len len f (by omega)).ok (by kernel_rfl) (by kernel_rfl))) (fLe (minF f x len)).ok
  · cases hv
theorem conGr:Con Tryz.prog 109 valGr:=by
  intro das v hv
  unfold valGr at hv
  split at hv
  · rename_i x len f
    have hb:=congrArg Prod.fst (Option.some.inj hv)
    have hv:=congrArg Prod.snd (Option.some.inj hv)
    subst hv
    have hb:=Nat.le_of_ble_eq_true hb
    refine ⟨rfl,?_⟩
    exact con_loopD drawnC noExt_ok (das:=dasF x len f) (v := .int .i64 (maxF f x len)) (lv := .exit 0 ⟨[.int .i64 (maxF f x len)],[]⟩) (by kernel_rfl) (by kernel_rfl) (eGr x len f).ok (loop_rule (body:=bGr) (fun _ e=>by cases e) len (fun k=>sF len f (maxF f x k) k) (fun k hk=>round_of drawnC noExt_ok (rGr (maxF f x k) len k f hk hb).ok (by kernel_rfl) (by kernel_rfl)) (round_of drawnC noExt_ok (xGr (maxF f x len) len len f (by omega)).ok (by kernel_rfl) (by kernel_rfl))) (fGr (maxF f x len)).ok
  · cases hv
end
end Go.Proofs.YtclagbonpachfaaGreat
/- Tables: contracts: the bounds at all points of two ranges. -/
namespace Go.Proofs.YtclagbonpachfaaGreat
open Go Go.Ev
set_option maxRecDepth 1000000
noncomputable section
def XT3:Ext:=conX [(107,cfR val102),(108,cf valLe),(109,cf valGr)] false
theorem XT3_ok:ExtOK Tryz.prog XT3:=conX_ok (allCon_cons (con_okR con102)<|allCon_cons (con_ok conLe)<|allCon_cons (con_ok conGr) allCon_nil)
def nP (wl wh ml mh:Int):Nat:=nW wl wh*nM ml mh
def bdL (lw:Nat) (fw:Nat→Nat→Int) (lm:Nat) (fm:Nat→Nat→Int) (f:Nat→Nat→Nat→Int) (wl wh ml mh:Int):Int:=minF (fun i _=>valsS lw fw lm fm f wl ml mh i) (valsS lw fw lm fm f wl ml mh 0) (nP wl wh ml mh)
def bdH (lw:Nat) (fw:Nat→Nat→Int) (lm:Nat) (fm:Nat→Nat→Int) (f:Nat→Nat→Nat→Int) (wl wh ml mh:Int):Int:=maxF (fun i _=>valsS lw fw lm fm f wl ml mh i) (valsS lw fw lm fm f wl ml mh 0) (nP wl wh ml mh)
theorem r74 (lw:Nat) (fw:Nat→Nat→Int) (lm:Nat) (fm:Nat→Nat→Int) (n:Nat) (ls:Nat→Nat) (f:Nat→Nat→Nat→Int) (wl wh ml mh:Int) (hp:ptsB lw fw lm fm n ls f wl wh ml mh=true) (hn:1≤nW wl wh*nM ml mh∧nW wl wh*nM ml mh≤100000):VC (runD0 Tryz.prog XT3 300 92 (enc (dasS lw fw lm fm n ls f wl wh ml mh) 0) 3 (fun x=>valP x (.agg 2 (T.setL .lf 0 [.int .i64 (bdL lw fw lm fm f wl wh ml mh),.int .i64 (bdH lw fw lm fm f wl wh ml mh)])))) (.go 1365 .nil):=VC_of (((cond (cond (okTb 2 lw fw lm fm n ls f) true false) (ptsB lw fw lm fm n ls f wl wh ml mh) false)=true∧((Nat.blt 0 ((nW wl wh)*(nM ml mh)))=true∧((cond (cond (allI .i64 (cellsI .i64 (fun i j =>
  valsS lw (fun i j=>intOfV (cellsI .i64 fw i j)) lm (fun i j=>intOfV (cellsI .i64 fm i j))
    (fun i j k=>intOfV (cellF (rowsI (nxA (D0.sl 1 lm fm) (nxA (D0.sl 1 lw fw) 0)) 1 ls f i 0) j k)) wl ml mh i)) ((nW wl wh)*(nM ml mh)) 1) true false) (Nat.ble ((nW wl wh)*(nM ml mh)) 1000000) false)=true∧((Nat.blt 0 ((nW wl wh)*(nM ml mh)))=true∧((cond (cond (allI .i64 (cellsI .i64 (fun i j =>
  valsS lw (fun i j=>intOfV (cellsI .i64 fw i j)) lm (fun i j=>intOfV (cellsI .i64 fm i j))
    (fun i j k=>intOfV (cellF (rowsI (nxA (D0.sl 1 lm fm) (nxA (D0.sl 1 lw fw) 0)) 1 ls f i 0) j k)) wl ml mh i)) ((nW wl wh)*(nM ml mh)) 1) true false) (Nat.ble ((nW wl wh)*(nM ml mh)) 1000000) false)=true∧((((minF (fun i j =>
  intOfV
    (cellsI .i64
      (fun i x =>
        valsS lw (fun i j=>intOfV (cellsI .i64 fw i j)) lm (fun i j=>intOfV (cellsI .i64 fm i j))
          (fun i j k=>intOfV (cellF (rowsI (nxA (D0.sl 1 lm fm) (nxA (D0.sl 1 lw fw) 0)) 1 ls f i 0) j k)) wl ml mh i)
      i j)) (valsS lw fw lm fm f wl ml mh 0) ((nW wl wh)*(nM ml mh))):Int)=(minF (fun i x=>valsS lw fw lm fm f wl ml mh i) (valsS lw fw lm fm f wl ml mh 0) ((nW wl wh)*(nM ml mh))))∧((((maxF (fun i j =>
  intOfV
    (cellsI .i64
      (fun i x =>
        valsS lw (fun i j=>intOfV (cellsI .i64 fw i j)) lm (fun i j=>intOfV (cellsI .i64 fm i j))
          (fun i j k=>intOfV (cellF (rowsI (nxA (D0.sl 1 lm fm) (nxA (D0.sl 1 lw fw) 0)) 1 ls f i 0) j k)) wl ml mh i)
      i j)) (valsS lw fw lm fm f wl ml mh 0) ((nW wl wh)*(nM ml mh))):Int)=(maxF (fun i x=>valsS lw fw lm fm f wl ml mh i) (valsS lw fw lm fm f wl ml mh 0) ((nW wl wh)*(nM ml mh))))∧True))))))))
def val74:Val:=fun das=>match das with | [.st [.sl 1 lw fw,.sl 1 lm fm,.rr 1 n ls f],.st [.i .i64 wl,.i .i64 wh],.st [.i .i64 ml,.i .i64 mh]]=>some (ptsB lw fw lm fm n ls f wl wh ml mh,.agg 2 (T.setL .lf 0 [.int .i64 (bdL lw fw lm fm f wl wh ml mh),.int .i64 (bdH lw fw lm fm f wl wh ml mh)])) | _=>none
theorem con74:Con Tryz.prog 92 val74:=by
  intro das x hv
  unfold val74 at hv
  split at hv
  · rename_i lw fw lm fm n ls f wl wh ml mh
    have hb:=congrArg Prod.fst (Option.some.inj hv)
    have hv:=congrArg Prod.snd (Option.some.inj hv)
    subst hv
    obtain ⟨h1,h2,h3,h4,h5,h6,h7⟩:=ptsB_t _ _ _ _ _ _ _ _ _ _ _ hb
    have hm:=nM_eq ml mh h2
    have hw:(nW wl wh:Int)=wh-wl+1:=nM_eq wl wh h1
    have g1:=Nat.mul_le_mul (show 1≤nW wl wh by omega) (show 1≤nM ml mh by omega)
    have g2:=Nat.mul_le_mul (show nW wl wh≤101 by omega) (show nM ml mh≤101 by omega)
    exact con_runV drawnC XT3_ok rfl (das:=dasS lw fw lm fm n ls f wl wh ml mh) (r74 lw fw lm fm n ls f wl wh ml mh hb ⟨by omega,by omega⟩)
  · cases hv
end
end Go.Proofs.YtclagbonpachfaaGreat
