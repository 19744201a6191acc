/- Casks: whether a blend is surely in a range: the reference's, as contracts. -/
import Derived.Test.YtiplgejpopellaaGreatYPrE2
import Derived.Test.YtiplgejpopellaaGreatYEe
set_option linter.all false
set_option linter.unusedSimpArgs false
set_option linter.unusedVariables false
namespace Go.Proofs.YtiplgejpopellaaGreat
namespace BL
open Go Go.Ev
set_option maxRecDepth 1000000
set_option maxHeartbeats 0
noncomputable section
variable (A:Nat) (B:Nat→Nat→Int) (I:Nat) (J:Nat→Nat→Int) (n:Nat) (M:Nat→Nat) (f:Nat→Nat→Nat→Int)
def sS (g:Nat→Nat→Int) (i _:Nat):Int:=g i 0
theorem ls0 (g:Nat→Nat→Int):VC (aJ Tryz.prog az 600 67 (enc [.one (.sl 2 0 g)] 0) 1 (fun v H=>dw 1 H v 0 1 (sS g))) .nil:=ai ((((0):Int)=0))
theorem ls1 (g:Nat→Nat→Int):VC (aJ Tryz.prog az 600 67 (enc [.one (.sl 2 1 g)] 0) 1 (fun v H=>dw 1 H v 1 1 (sS g))) .nil:=ai ((((((1:Nat):Int):Int)=1)∧(((((g 0 0):Int)=(g 0 0))∧True)∧True)))
theorem qw (g:Nat→Nat→Int):VC (aJ Tryz.prog az 600 67 (enc [.one (.sl 2 2 g)] 0) 1 (fun v H=>dw 1 H v 2 1 (sS g))) .nil:=ai ((((((2:Nat):Int):Int)=2)∧(((((g 0 0):Int)=(g 0 0))∧True)∧(((((g 1 0):Int)=(g 1 0))∧True)∧True))))
theorem ls3 (g:Nat→Nat→Int):VC (aJ Tryz.prog az 600 67 (enc [.one (.sl 2 3 g)] 0) 1 (fun v H=>dw 1 H v 3 1 (sS g))) .nil:=ai ((((((3:Nat):Int):Int)=3)∧(((((g 0 0):Int)=(g 0 0))∧True)∧(((((g 1 0):Int)=(g 1 0))∧True)∧(((((g 2 0):Int)=(g 2 0))∧True)∧True)))))
theorem ls4 (g:Nat→Nat→Int):VC (aJ Tryz.prog az 600 67 (enc [.one (.sl 2 4 g)] 0) 1 (fun v H=>dw 1 H v 4 1 (sS g))) .nil:=ai ((((((4:Nat):Int):Int)=4)∧(((((g 0 0):Int)=(g 0 0))∧True)∧(((((g 1 0):Int)=(g 1 0))∧True)∧(((((g 2 0):Int)=(g 2 0))∧True)∧(((((g 3 0):Int)=(g 3 0))∧True)∧True))))))
theorem ls5 (g:Nat→Nat→Int):VC (aJ Tryz.prog az 600 67 (enc [.one (.sl 2 5 g)] 0) 1 (fun v H=>dw 1 H v 5 1 (sS g))) .nil:=ai ((((((5:Nat):Int):Int)=5)∧(((((g 0 0):Int)=(g 0 0))∧True)∧(((((g 1 0):Int)=(g 1 0))∧True)∧(((((g 2 0):Int)=(g 2 0))∧True)∧(((((g 3 0):Int)=(g 3 0))∧True)∧(((((g 4 0):Int)=(g 4 0))∧True)∧True)))))))
theorem ls6 (g:Nat→Nat→Int):VC (aJ Tryz.prog az 600 67 (enc [.one (.sl 2 6 g)] 0) 1 (fun v H=>dw 1 H v 6 1 (sS g))) .nil:=ai ((((((6:Nat):Int):Int)=6)∧(((((g 0 0):Int)=(g 0 0))∧True)∧(((((g 1 0):Int)=(g 1 0))∧True)∧(((((g 2 0):Int)=(g 2 0))∧True)∧(((((g 3 0):Int)=(g 3 0))∧True)∧(((((g 4 0):Int)=(g 4 0))∧True)∧(((((g 5 0):Int)=(g 5 0))∧True)∧True))))))))
def KI:Val:=fun das=>match das with | [.one (.sl 2 m g)]=>some (Nat.ble m 6,.fz true 0 (ae .i64 (sS g)) m 1) | _=>none
theorem Zk:WJ Tryz.prog 67 KI:=by
 intro das v hv
 unfold KI at hv
 split at hv
 ·rename_i m g
  have hb:=Nat.le_of_ble_eq_true (congrArg Prod.fst (Option.some.inj hv))
  have hv:=congrArg Prod.snd (Option.some.inj hv)
  subst hv
  have fin:∀ {k:Nat} {h:HT},VC (aJ Tryz.prog az 600 67 (enc [.one (.sl 2 k g)] 0) 1 (fun v H=>dw 1 H v k 1 (sS g))) h→∃ v' H',SpecCall Tryz.prog 67 (enc [.one (.sl 2 k g)] 0) (aU 2) v' H'∧∀ new,FnV H' 1 new v' (JD new (.fz true 0 (ae .i64 (sS g)) k 1)):=fun hvc=>by
   obtain ⟨v',H',z1,z2⟩:=aY aj aG hvc
   exact ⟨v',H',z1,fun new => .one (.one (FX z2 new))⟩
  have:m=0∨m=1∨m=2∨m=3∨m=4∨m=5∨m=6:=by omega
  rcases this with rfl | rfl | rfl | rfl | rfl | rfl | rfl
  ·exact fin (ls0 g)
  ·exact fin (ls1 g)
  ·exact fin (qw g)
  ·exact fin (ls3 g)
  ·exact fin (ls4 g)
  ·exact fin (ls5 g)
  ·exact fin (ls6 g)
 ·cases hv
def wF (g:Nat→Nat→Int) (i _:Nat):Int:=g i 1
theorem tq0 (g:Nat→Nat→Int):VC (aJ Tryz.prog az 600 68 (enc [.one (.sl 2 0 g)] 0) 1 (fun v H=>dw 1 H v 0 1 (wF g))) .nil:=ai ((((0):Int)=0))
theorem tq1 (g:Nat→Nat→Int):VC (aJ Tryz.prog az 600 68 (enc [.one (.sl 2 1 g)] 0) 1 (fun v H=>dw 1 H v 1 1 (wF g))) .nil:=ai ((((((1:Nat):Int):Int)=1)∧(((((g 0 1):Int)=(g 0 1))∧True)∧True)))
theorem tq2 (g:Nat→Nat→Int):VC (aJ Tryz.prog az 600 68 (enc [.one (.sl 2 2 g)] 0) 1 (fun v H=>dw 1 H v 2 1 (wF g))) .nil:=ai ((((((2:Nat):Int):Int)=2)∧(((((g 0 1):Int)=(g 0 1))∧True)∧(((((g 1 1):Int)=(g 1 1))∧True)∧True))))
theorem tq3 (g:Nat→Nat→Int):VC (aJ Tryz.prog az 600 68 (enc [.one (.sl 2 3 g)] 0) 1 (fun v H=>dw 1 H v 3 1 (wF g))) .nil:=ai ((((((3:Nat):Int):Int)=3)∧(((((g 0 1):Int)=(g 0 1))∧True)∧(((((g 1 1):Int)=(g 1 1))∧True)∧(((((g 2 1):Int)=(g 2 1))∧True)∧True)))))
theorem tq4 (g:Nat→Nat→Int):VC (aJ Tryz.prog az 600 68 (enc [.one (.sl 2 4 g)] 0) 1 (fun v H=>dw 1 H v 4 1 (wF g))) .nil:=ai ((((((4:Nat):Int):Int)=4)∧(((((g 0 1):Int)=(g 0 1))∧True)∧(((((g 1 1):Int)=(g 1 1))∧True)∧(((((g 2 1):Int)=(g 2 1))∧True)∧(((((g 3 1):Int)=(g 3 1))∧True)∧True))))))
theorem tq5 (g:Nat→Nat→Int):VC (aJ Tryz.prog az 600 68 (enc [.one (.sl 2 5 g)] 0) 1 (fun v H=>dw 1 H v 5 1 (wF g))) .nil:=ai ((((((5:Nat):Int):Int)=5)∧(((((g 0 1):Int)=(g 0 1))∧True)∧(((((g 1 1):Int)=(g 1 1))∧True)∧(((((g 2 1):Int)=(g 2 1))∧True)∧(((((g 3 1):Int)=(g 3 1))∧True)∧(((((g 4 1):Int)=(g 4 1))∧True)∧True)))))))
theorem tq6 (g:Nat→Nat→Int):VC (aJ Tryz.prog az 600 68 (enc [.one (.sl 2 6 g)] 0) 1 (fun v H=>dw 1 H v 6 1 (wF g))) .nil:=ai ((((((6:Nat):Int):Int)=6)∧(((((g 0 1):Int)=(g 0 1))∧True)∧(((((g 1 1):Int)=(g 1 1))∧True)∧(((((g 2 1):Int)=(g 2 1))∧True)∧(((((g 3 1):Int)=(g 3 1))∧True)∧(((((g 4 1):Int)=(g 4 1))∧True)∧(((((g 5 1):Int)=(g 5 1))∧True)∧True))))))))
def JW:Val:=fun das=>match das with | [.one (.sl 2 m g)]=>some (Nat.ble m 6,.fz true 0 (ae .i64 (wF g)) m 1) | _=>none
theorem Zd:WJ Tryz.prog 68 JW:=by
 intro das v hv
 unfold JW at hv
 split at hv
 ·rename_i m g
  have hb:=Nat.le_of_ble_eq_true (congrArg Prod.fst (Option.some.inj hv))
  have hv:=congrArg Prod.snd (Option.some.inj hv)
  subst hv
  have fin:∀ {k:Nat} {h:HT},VC (aJ Tryz.prog az 600 68 (enc [.one (.sl 2 k g)] 0) 1 (fun v H=>dw 1 H v k 1 (wF g))) h→∃ v' H',SpecCall Tryz.prog 68 (enc [.one (.sl 2 k g)] 0) (aU 2) v' H'∧∀ new,FnV H' 1 new v' (JD new (.fz true 0 (ae .i64 (wF g)) k 1)):=fun hvc=>by
   obtain ⟨v',H',z1,z2⟩:=aY aj aG hvc
   exact ⟨v',H',z1,fun new => .one (.one (FX z2 new))⟩
  have:m=0∨m=1∨m=2∨m=3∨m=4∨m=5∨m=6:=by omega
  rcases this with rfl | rfl | rfl | rfl | rfl | rfl | rfl
  ·exact fin (tq0 g)
  ·exact fin (tq1 g)
  ·exact fin (tq2 g)
  ·exact fin (tq3 g)
  ·exact fin (tq4 g)
  ·exact fin (tq5 g)
  ·exact fin (tq6 g)
 ·cases hv
def suL (E g t:Nat→Nat→Int) (m:Nat):Int:=rsV E g 0 (sS t) m
def suH (E g t:Nat→Nat→Int) (m:Nat):Int:=rsV E g 0 (wF t) m
def iZ (E:Nat→Nat→Int) (t:Nat→Nat→Int) (m:Nat) (g:Nat→Nat→Int) (a b:Int):Bool:=cond (ak a (suL E g t m)) (ak (suH E g t m) b) false
def jU (O:Nat) (E:Nat→Nat→Int) (k:Nat) (t:Nat→Nat→Int) (m:Nat) (g:Nat→Nat→Int):Bool:=cond (Nat.ble k 6) (cond (pX O E m g 0 k (sS t)) (pX O E m g 0 k (wF t)) false) false
def XSu:Ext:=jO [(67,cfN KI),(68,cfN JW),(66,cf Jz)] false
theorem MZ:dM Tryz.prog XSu:=dW (aA (Gj Zk)<|aA (Gj Zd)<|aA (dR YT) bK)
theorem su1 (r:Int) (O:Nat) (E:Nat→Nat→Int) (k:Nat) (t:Nat→Nat→Int) (m:Nat) (g:Nat→Nat→Int) (a b:Int) (h:k≤6) (c1:pX O E m g 0 k (sS t)=true) (c2:pX O E m g 0 k (wF t)=true) (q1:a≤rsV E g 0 (sS t) m) (q2:rsV E g 0 (wF t) m≤b):VC (dh Tryz.prog XSu 300 37 (enc [.st [.sl 1 A B,.sl 1 I J,.rr 1 n M f,.i .i64 r,.sl 5 O E],.one (.sl 2 k t),.one (.sl 1 m g),.st [.i .i64 a,.i .i64 b]] 0) 6 (fun v=>dB v (.bool true))) (.go 331797 .nil):=ai (((cond (cond (ay .i64 (ae .i64 t) k 2) true false) (Nat.ble k 6) false)=true∧((cond (cond (cond (ay .i64 (ae .i64 B) A 1) (cond (ay .i64 (ae .i64 J) I 1) (cond (cond true (fZ 2 (aQ 2 1 M f) n 1) false) (cond (ay .i64 (ae .i64 E) O 5) true false) false) false) false) (cond (ay .i64 (ae .i64 g) m 1) (cond (ay .i64 (ae .i64 (sS t)) k 1) true false) false) false) (pX O E m g 0 k (sS t)) false)=true∧((ak a (rsV E g 0 (sS t) m))=true∧((cond (cond (ay .i64 (ae .i64 t) k 2) true false) (Nat.ble k 6) false)=true∧((cond (cond (cond (ay .i64 (ae .i64 B) A 1) (cond (ay .i64 (ae .i64 J) I 1) (cond (cond true (fZ 2 (aQ 2 1 M f) n 1) false) (cond (ay .i64 (ae .i64 E) O 5) true false) false) false) false) (cond (ay .i64 (ae .i64 g) m 1) (cond (ay .i64 (ae .i64 (wF t)) k 1) true false) false) false) (pX O E m g 0 k (wF t)) false)=true∧((ak (rsV E g 0 (wF t) m) b)=true)))))))
theorem su2 (r:Int) (O:Nat) (E:Nat→Nat→Int) (k:Nat) (t:Nat→Nat→Int) (m:Nat) (g:Nat→Nat→Int) (a b:Int) (h:k≤6) (c1:pX O E m g 0 k (sS t)=true) (c2:pX O E m g 0 k (wF t)=true) (q1:a≤rsV E g 0 (sS t) m) (q2:¬ rsV E g 0 (wF t) m≤b):VC (dh Tryz.prog XSu 300 37 (enc [.st [.sl 1 A B,.sl 1 I J,.rr 1 n M f,.i .i64 r,.sl 5 O E],.one (.sl 2 k t),.one (.sl 1 m g),.st [.i .i64 a,.i .i64 b]] 0) 6 (fun v=>dB v (.bool false))) (.go 331797 .nil):=ai (((cond (cond (ay .i64 (ae .i64 t) k 2) true false) (Nat.ble k 6) false)=true∧((cond (cond (cond (ay .i64 (ae .i64 B) A 1) (cond (ay .i64 (ae .i64 J) I 1) (cond (cond true (fZ 2 (aQ 2 1 M f) n 1) false) (cond (ay .i64 (ae .i64 E) O 5) true false) false) false) false) (cond (ay .i64 (ae .i64 g) m 1) (cond (ay .i64 (ae .i64 (sS t)) k 1) true false) false) false) (pX O E m g 0 k (sS t)) false)=true∧((ak a (rsV E g 0 (sS t) m))=true∧((cond (cond (ay .i64 (ae .i64 t) k 2) true false) (Nat.ble k 6) false)=true∧((cond (cond (cond (ay .i64 (ae .i64 B) A 1) (cond (ay .i64 (ae .i64 J) I 1) (cond (cond true (fZ 2 (aQ 2 1 M f) n 1) false) (cond (ay .i64 (ae .i64 E) O 5) true false) false) false) false) (cond (ay .i64 (ae .i64 g) m 1) (cond (ay .i64 (ae .i64 (wF t)) k 1) true false) false) false) (pX O E m g 0 k (wF t)) false)=true∧((ak (rsV E g 0 (wF t) m) b)=false)))))))
theorem su3 (r:Int) (O:Nat) (E:Nat→Nat→Int) (k:Nat) (t:Nat→Nat→Int) (m:Nat) (g:Nat→Nat→Int) (a b:Int) (h:k≤6) (c1:pX O E m g 0 k (sS t)=true) (c2:pX O E m g 0 k (wF t)=true) (q1:¬ a≤rsV E g 0 (sS t) m):VC (dh Tryz.prog XSu 300 37 (enc [.st [.sl 1 A B,.sl 1 I J,.rr 1 n M f,.i .i64 r,.sl 5 O E],.one (.sl 2 k t),.one (.sl 1 m g),.st [.i .i64 a,.i .i64 b]] 0) 6 (fun v=>dB v (.bool false))) (.go 101 .nil):=ai (((cond (cond (ay .i64 (ae .i64 t) k 2) true false) (Nat.ble k 6) false)=true∧((cond (cond (cond (ay .i64 (ae .i64 B) A 1) (cond (ay .i64 (ae .i64 J) I 1) (cond (cond true (fZ 2 (aQ 2 1 M f) n 1) false) (cond (ay .i64 (ae .i64 E) O 5) true false) false) false) false) (cond (ay .i64 (ae .i64 g) m 1) (cond (ay .i64 (ae .i64 (sS t)) k 1) true false) false) false) (pX O E m g 0 k (sS t)) false)=true∧((ak a (rsV E g 0 (sS t) m))=false∧(false=false)))))
def Tv:Val:=fun das=>match das with | [.st [.sl 1 A B,.sl 1 I J,.rr 1 n M f,.i .i64 r,.sl 5 O E],.one (.sl 2 k t),.one (.sl 1 m g),.st [.i .i64 a,.i .i64 b]]=>some (jU O E k t m g,.bool (iZ E t m g a b)) | _=>none
theorem aau:qi Tryz.prog 37 Tv:=by
 intro das v hv
 unfold Tv at hv
 split at hv
 ·rename_i A B I J n M f r O E k t m g a b
  have hb:=congrArg Prod.fst (Option.some.inj hv)
  have hv:=congrArg Prod.snd (Option.some.inj hv)
  subst hv
  obtain ⟨h1,hb⟩:=ah hb
  obtain ⟨h2,h3⟩:=ah hb
  have h1:=Nat.le_of_ble_eq_true h1
  unfold iZ suL suH
  by_cases q1:a≤rsV E g 0 (sS t) m
  ·by_cases q2:rsV E g 0 (wF t) m≤b
   ·rw [(aW _ _).mpr q1,(aW _ _).mpr q2]
    exact bn aj MZ rfl (das:=[.st [.sl 1 A B,.sl 1 I J,.rr 1 n M f,.i .i64 r,.sl 5 O E],.one (.sl 2 k t),.one (.sl 1 m g),.st [.i .i64 a,.i .i64 b]]) (su1 A B I J n M f r O E k t m g a b h1 h2 h3 q1 q2)
   ·rw [(aW _ _).mpr q1,(dY _ _).mpr (by omega)]
    exact bn aj MZ rfl (das:=[.st [.sl 1 A B,.sl 1 I J,.rr 1 n M f,.i .i64 r,.sl 5 O E],.one (.sl 2 k t),.one (.sl 1 m g),.st [.i .i64 a,.i .i64 b]]) (su2 A B I J n M f r O E k t m g a b h1 h2 h3 q1 q2)
  ·rw [(dY _ _).mpr (by omega)]
   exact bn aj MZ rfl (das:=[.st [.sl 1 A B,.sl 1 I J,.rr 1 n M f,.i .i64 r,.sl 5 O E],.one (.sl 2 k t),.one (.sl 1 m g),.st [.i .i64 a,.i .i64 b]]) (su3 A B I J n M f r O E k t m g a b h1 h2 h3 q1)
 ·cases hv
end
end BL
end Go.Proofs.YtiplgejpopellaaGreat
