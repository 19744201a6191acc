/- Casks: lists by bits, and the reference's strength of a blend, as contracts. -/
import Derived.Test.YtiplgejpopellaaGreatYPrS4
import Derived.Test.YtiplgejpopellaaGreatYPrL3
import Derived.Test.YtiplgejpopellaaGreatYEe
set_option linter.all false
set_option linter.unusedSimpArgs false
set_option linter.unusedVariables false
namespace Go.Proofs.YtiplgejpopellaaGreat
namespace BL
open Go Go.Ev
set_option maxRecDepth 1000000
set_option maxHeartbeats 0
noncomputable section
variable (A:Nat) (B:Nat→Nat→Int) (I:Nat) (J:Nat→Nat→Int) (n:Nat) (M:Nat→Nat) (f:Nat→Nat→Nat→Int)
theorem FX {k:Nat} {H:EH} {v:V} {len e:Nat} {f:Nat→Nat→Int} (h:dw k H v len e f) (new:Nat):Fn0 H k new v (.fz true new (ae .i64 f) len e):=by
 unfold dw at h
 split at h
 ·have h:(0:Nat)=len:=by injection h
  subst h
  exact .nilS
 ·obtain ⟨h1,h2⟩:=bF h
  obtain ⟨_,rfl,rfl,rfl⟩:=FO h2
  exact .fz (bZ h1) (fun _ _ _ _=>rfl) (fun _ _ _ _ => .int _ _) (fun _ _ _ _ => .int _ _)
 ·rename_i b off l e'
  obtain ⟨h1,h2⟩:=h
  have h1:l=len:=by injection h1
  subst h1
  split at h2
  ·rename_i c lo sz g hb
   obtain ⟨q1,h3⟩:=bF h2
   clear h2
   obtain ⟨q2,h4⟩:=bF h3
   clear h3
   obtain ⟨q3,h5⟩:=bF h4
   clear h4
   have:=nb q1
   subst this
   have q2:=Nat.le_of_ble_eq_true q2
   have q3:off+l*e'≤sz:=Nat.le_of_ble_eq_true q3
   refine .slice (d:=ae .i64 f) hb q2 q3 (fun i j hi hj=>?_) (fun _ _ _ _=>rfl) (fun _ _ _ _ => .int _ _) (fun _ _ _ _ => .int _ _)
   have:=AY h5 i j hi hj
   rw [Nat.zero_add] at this
   exact this
  ·exact h2.elim
 ·exact h.elim
def Au (n i:Nat) (l:List Int):List Int:=cond (Nat.beq (Nat.mod (Nat.div n (Nat.pow 2 i)) 2) 1) (Int.ofNat i::l) l
def biL (n:Nat):List Int:=Au n 0 (Au n 1 (Au n 2 (Au n 3 (Au n 4 (Au n 5 [])))))
def Rw (l:List Int):Nat:=List.rec (motive:=fun _=>Nat) 0 (fun _ _ ih=>Nat.succ ih) l
def aH (n:Int) (i _j:Nat):Int:=Xq (biL (Int.toNat n)) i
def aC (n:Int):Nat:=Rw (biL (Int.toNat n))
theorem bi0  : VC (aJ Tryz.prog az 900 36 (enc [.one (.i .i64 0)] 0) 0 (fun v H=>dw 0 H v 0 1 (aH 0))) .nil:=ai ((((0):Int)=(0)))
theorem bi1  : VC (aJ Tryz.prog az 900 36 (enc [.one (.i .i64 1)] 0) 0 (fun v H=>dw 0 H v 1 1 (aH 1))) .nil:=ai (((((1):Int)=(1))∧(((((0):Int)=(0))∧True)∧True)))
theorem bi2  : VC (aJ Tryz.prog az 900 36 (enc [.one (.i .i64 2)] 0) 0 (fun v H=>dw 0 H v 1 1 (aH 2))) .nil:=ai (((((1):Int)=(1))∧(((((1):Int)=(1))∧True)∧True)))
theorem bi3  : VC (aJ Tryz.prog az 900 36 (enc [.one (.i .i64 3)] 0) 0 (fun v H=>dw 0 H v 2 1 (aH 3))) .nil:=ai (((((2):Int)=(2))∧(((((0):Int)=(0))∧True)∧(((((1):Int)=(1))∧True)∧True))))
theorem bi4  : VC (aJ Tryz.prog az 900 36 (enc [.one (.i .i64 4)] 0) 0 (fun v H=>dw 0 H v 1 1 (aH 4))) .nil:=ai (((((1):Int)=(1))∧(((((2):Int)=(2))∧True)∧True)))
theorem bi5  : VC (aJ Tryz.prog az 900 36 (enc [.one (.i .i64 5)] 0) 0 (fun v H=>dw 0 H v 2 1 (aH 5))) .nil:=ai (((((2):Int)=(2))∧(((((0):Int)=(0))∧True)∧(((((2):Int)=(2))∧True)∧True))))
theorem bi6  : VC (aJ Tryz.prog az 900 36 (enc [.one (.i .i64 6)] 0) 0 (fun v H=>dw 0 H v 2 1 (aH 6))) .nil:=ai (((((2):Int)=(2))∧(((((1):Int)=(1))∧True)∧(((((2):Int)=(2))∧True)∧True))))
theorem bi7  : VC (aJ Tryz.prog az 900 36 (enc [.one (.i .i64 7)] 0) 0 (fun v H=>dw 0 H v 3 1 (aH 7))) .nil:=ai (((((3):Int)=(3))∧(((((0):Int)=(0))∧True)∧(((((1):Int)=(1))∧True)∧(((((2):Int)=(2))∧True)∧True)))))
theorem bi8  : VC (aJ Tryz.prog az 900 36 (enc [.one (.i .i64 8)] 0) 0 (fun v H=>dw 0 H v 1 1 (aH 8))) .nil:=ai (((((1):Int)=(1))∧(((((3):Int)=(3))∧True)∧True)))
theorem bi9  : VC (aJ Tryz.prog az 900 36 (enc [.one (.i .i64 9)] 0) 0 (fun v H=>dw 0 H v 2 1 (aH 9))) .nil:=ai (((((2):Int)=(2))∧(((((0):Int)=(0))∧True)∧(((((3):Int)=(3))∧True)∧True))))
theorem ab9  : VC (aJ Tryz.prog az 900 36 (enc [.one (.i .i64 10)] 0) 0 (fun v H=>dw 0 H v 2 1 (aH 10))) .nil:=ai (((((2):Int)=(2))∧(((((1):Int)=(1))∧True)∧(((((3):Int)=(3))∧True)∧True))))
theorem acg  : VC (aJ Tryz.prog az 900 36 (enc [.one (.i .i64 11)] 0) 0 (fun v H=>dw 0 H v 3 1 (aH 11))) .nil:=ai (((((3):Int)=(3))∧(((((0):Int)=(0))∧True)∧(((((1):Int)=(1))∧True)∧(((((3):Int)=(3))∧True)∧True)))))
theorem ads  : VC (aJ Tryz.prog az 900 36 (enc [.one (.i .i64 12)] 0) 0 (fun v H=>dw 0 H v 2 1 (aH 12))) .nil:=ai (((((2):Int)=(2))∧(((((2):Int)=(2))∧True)∧(((((3):Int)=(3))∧True)∧True))))
theorem adL  : VC (aJ Tryz.prog az 900 36 (enc [.one (.i .i64 13)] 0) 0 (fun v H=>dw 0 H v 3 1 (aH 13))) .nil:=ai (((((3):Int)=(3))∧(((((0):Int)=(0))∧True)∧(((((2):Int)=(2))∧True)∧(((((3):Int)=(3))∧True)∧True)))))
theorem aeb  : VC (aJ Tryz.prog az 900 36 (enc [.one (.i .i64 14)] 0) 0 (fun v H=>dw 0 H v 3 1 (aH 14))) .nil:=ai (((((3):Int)=(3))∧(((((1):Int)=(1))∧True)∧(((((2):Int)=(2))∧True)∧(((((3):Int)=(3))∧True)∧True)))))
theorem abY  : VC (aJ Tryz.prog az 900 36 (enc [.one (.i .i64 15)] 0) 0 (fun v H=>dw 0 H v 4 1 (aH 15))) .nil:=ai (((((4):Int)=(4))∧(((((0):Int)=(0))∧True)∧(((((1):Int)=(1))∧True)∧(((((2):Int)=(2))∧True)∧(((((3):Int)=(3))∧True)∧True))))))
theorem acU  : VC (aJ Tryz.prog az 900 36 (enc [.one (.i .i64 16)] 0) 0 (fun v H=>dw 0 H v 1 1 (aH 16))) .nil:=ai (((((1):Int)=(1))∧(((((4):Int)=(4))∧True)∧True)))
theorem acO  : VC (aJ Tryz.prog az 900 36 (enc [.one (.i .i64 17)] 0) 0 (fun v H=>dw 0 H v 2 1 (aH 17))) .nil:=ai (((((2):Int)=(2))∧(((((0):Int)=(0))∧True)∧(((((4):Int)=(4))∧True)∧True))))
theorem abX  : VC (aJ Tryz.prog az 900 36 (enc [.one (.i .i64 18)] 0) 0 (fun v H=>dw 0 H v 2 1 (aH 18))) .nil:=ai (((((2):Int)=(2))∧(((((1):Int)=(1))∧True)∧(((((4):Int)=(4))∧True)∧True))))
theorem adR  : VC (aJ Tryz.prog az 900 36 (enc [.one (.i .i64 19)] 0) 0 (fun v H=>dw 0 H v 3 1 (aH 19))) .nil:=ai (((((3):Int)=(3))∧(((((0):Int)=(0))∧True)∧(((((1):Int)=(1))∧True)∧(((((4):Int)=(4))∧True)∧True)))))
theorem adb  : VC (aJ Tryz.prog az 900 36 (enc [.one (.i .i64 20)] 0) 0 (fun v H=>dw 0 H v 2 1 (aH 20))) .nil:=ai (((((2):Int)=(2))∧(((((2):Int)=(2))∧True)∧(((((4):Int)=(4))∧True)∧True))))
theorem acb  : VC (aJ Tryz.prog az 900 36 (enc [.one (.i .i64 21)] 0) 0 (fun v H=>dw 0 H v 3 1 (aH 21))) .nil:=ai (((((3):Int)=(3))∧(((((0):Int)=(0))∧True)∧(((((2):Int)=(2))∧True)∧(((((4):Int)=(4))∧True)∧True)))))
theorem ac9  : VC (aJ Tryz.prog az 900 36 (enc [.one (.i .i64 22)] 0) 0 (fun v H=>dw 0 H v 3 1 (aH 22))) .nil:=ai (((((3):Int)=(3))∧(((((1):Int)=(1))∧True)∧(((((2):Int)=(2))∧True)∧(((((4):Int)=(4))∧True)∧True)))))
theorem abQ  : VC (aJ Tryz.prog az 900 36 (enc [.one (.i .i64 23)] 0) 0 (fun v H=>dw 0 H v 4 1 (aH 23))) .nil:=ai (((((4):Int)=(4))∧(((((0):Int)=(0))∧True)∧(((((1):Int)=(1))∧True)∧(((((2):Int)=(2))∧True)∧(((((4):Int)=(4))∧True)∧True))))))
theorem acY  : VC (aJ Tryz.prog az 900 36 (enc [.one (.i .i64 24)] 0) 0 (fun v H=>dw 0 H v 2 1 (aH 24))) .nil:=ai (((((2):Int)=(2))∧(((((3):Int)=(3))∧True)∧(((((4):Int)=(4))∧True)∧True))))
theorem adK  : VC (aJ Tryz.prog az 900 36 (enc [.one (.i .i64 25)] 0) 0 (fun v H=>dw 0 H v 3 1 (aH 25))) .nil:=ai (((((3):Int)=(3))∧(((((0):Int)=(0))∧True)∧(((((3):Int)=(3))∧True)∧(((((4):Int)=(4))∧True)∧True)))))
theorem adW  : VC (aJ Tryz.prog az 900 36 (enc [.one (.i .i64 26)] 0) 0 (fun v H=>dw 0 H v 3 1 (aH 26))) .nil:=ai (((((3):Int)=(3))∧(((((1):Int)=(1))∧True)∧(((((3):Int)=(3))∧True)∧(((((4):Int)=(4))∧True)∧True)))))
theorem acA  : VC (aJ Tryz.prog az 900 36 (enc [.one (.i .i64 27)] 0) 0 (fun v H=>dw 0 H v 4 1 (aH 27))) .nil:=ai (((((4):Int)=(4))∧(((((0):Int)=(0))∧True)∧(((((1):Int)=(1))∧True)∧(((((3):Int)=(3))∧True)∧(((((4):Int)=(4))∧True)∧True))))))
theorem abZ  : VC (aJ Tryz.prog az 900 36 (enc [.one (.i .i64 28)] 0) 0 (fun v H=>dw 0 H v 3 1 (aH 28))) .nil:=ai (((((3):Int)=(3))∧(((((2):Int)=(2))∧True)∧(((((3):Int)=(3))∧True)∧(((((4):Int)=(4))∧True)∧True)))))
theorem acS  : VC (aJ Tryz.prog az 900 36 (enc [.one (.i .i64 29)] 0) 0 (fun v H=>dw 0 H v 4 1 (aH 29))) .nil:=ai (((((4):Int)=(4))∧(((((0):Int)=(0))∧True)∧(((((2):Int)=(2))∧True)∧(((((3):Int)=(3))∧True)∧(((((4):Int)=(4))∧True)∧True))))))
theorem adH  : VC (aJ Tryz.prog az 900 36 (enc [.one (.i .i64 30)] 0) 0 (fun v H=>dw 0 H v 4 1 (aH 30))) .nil:=ai (((((4):Int)=(4))∧(((((1):Int)=(1))∧True)∧(((((2):Int)=(2))∧True)∧(((((3):Int)=(3))∧True)∧(((((4):Int)=(4))∧True)∧True))))))
theorem adu  : VC (aJ Tryz.prog az 900 36 (enc [.one (.i .i64 31)] 0) 0 (fun v H=>dw 0 H v 5 1 (aH 31))) .nil:=ai (((((5):Int)=(5))∧(((((0):Int)=(0))∧True)∧(((((1):Int)=(1))∧True)∧(((((2):Int)=(2))∧True)∧(((((3):Int)=(3))∧True)∧(((((4):Int)=(4))∧True)∧True)))))))
theorem acG  : VC (aJ Tryz.prog az 900 36 (enc [.one (.i .i64 32)] 0) 0 (fun v H=>dw 0 H v 1 1 (aH 32))) .nil:=ai (((((1):Int)=(1))∧(((((5):Int)=(5))∧True)∧True)))
theorem adO  : VC (aJ Tryz.prog az 900 36 (enc [.one (.i .i64 33)] 0) 0 (fun v H=>dw 0 H v 2 1 (aH 33))) .nil:=ai (((((2):Int)=(2))∧(((((0):Int)=(0))∧True)∧(((((5):Int)=(5))∧True)∧True))))
theorem abO  : VC (aJ Tryz.prog az 900 36 (enc [.one (.i .i64 34)] 0) 0 (fun v H=>dw 0 H v 2 1 (aH 34))) .nil:=ai (((((2):Int)=(2))∧(((((1):Int)=(1))∧True)∧(((((5):Int)=(5))∧True)∧True))))
theorem acH  : VC (aJ Tryz.prog az 900 36 (enc [.one (.i .i64 35)] 0) 0 (fun v H=>dw 0 H v 3 1 (aH 35))) .nil:=ai (((((3):Int)=(3))∧(((((0):Int)=(0))∧True)∧(((((1):Int)=(1))∧True)∧(((((5):Int)=(5))∧True)∧True)))))
theorem ad3  : VC (aJ Tryz.prog az 900 36 (enc [.one (.i .i64 36)] 0) 0 (fun v H=>dw 0 H v 2 1 (aH 36))) .nil:=ai (((((2):Int)=(2))∧(((((2):Int)=(2))∧True)∧(((((5):Int)=(5))∧True)∧True))))
theorem ad1  : VC (aJ Tryz.prog az 900 36 (enc [.one (.i .i64 37)] 0) 0 (fun v H=>dw 0 H v 3 1 (aH 37))) .nil:=ai (((((3):Int)=(3))∧(((((0):Int)=(0))∧True)∧(((((2):Int)=(2))∧True)∧(((((5):Int)=(5))∧True)∧True)))))
theorem aco  : VC (aJ Tryz.prog az 900 36 (enc [.one (.i .i64 38)] 0) 0 (fun v H=>dw 0 H v 3 1 (aH 38))) .nil:=ai (((((3):Int)=(3))∧(((((1):Int)=(1))∧True)∧(((((2):Int)=(2))∧True)∧(((((5):Int)=(5))∧True)∧True)))))
theorem ab1  : VC (aJ Tryz.prog az 900 36 (enc [.one (.i .i64 39)] 0) 0 (fun v H=>dw 0 H v 4 1 (aH 39))) .nil:=ai (((((4):Int)=(4))∧(((((0):Int)=(0))∧True)∧(((((1):Int)=(1))∧True)∧(((((2):Int)=(2))∧True)∧(((((5):Int)=(5))∧True)∧True))))))
theorem acI  : VC (aJ Tryz.prog az 900 36 (enc [.one (.i .i64 40)] 0) 0 (fun v H=>dw 0 H v 2 1 (aH 40))) .nil:=ai (((((2):Int)=(2))∧(((((3):Int)=(3))∧True)∧(((((5):Int)=(5))∧True)∧True))))
theorem ac2  : VC (aJ Tryz.prog az 900 36 (enc [.one (.i .i64 41)] 0) 0 (fun v H=>dw 0 H v 3 1 (aH 41))) .nil:=ai (((((3):Int)=(3))∧(((((0):Int)=(0))∧True)∧(((((3):Int)=(3))∧True)∧(((((5):Int)=(5))∧True)∧True)))))
theorem acQ  : VC (aJ Tryz.prog az 900 36 (enc [.one (.i .i64 42)] 0) 0 (fun v H=>dw 0 H v 3 1 (aH 42))) .nil:=ai (((((3):Int)=(3))∧(((((1):Int)=(1))∧True)∧(((((3):Int)=(3))∧True)∧(((((5):Int)=(5))∧True)∧True)))))
theorem ab5  : VC (aJ Tryz.prog az 900 36 (enc [.one (.i .i64 43)] 0) 0 (fun v H=>dw 0 H v 4 1 (aH 43))) .nil:=ai (((((4):Int)=(4))∧(((((0):Int)=(0))∧True)∧(((((1):Int)=(1))∧True)∧(((((3):Int)=(3))∧True)∧(((((5):Int)=(5))∧True)∧True))))))
theorem abV  : VC (aJ Tryz.prog az 900 36 (enc [.one (.i .i64 44)] 0) 0 (fun v H=>dw 0 H v 3 1 (aH 44))) .nil:=ai (((((3):Int)=(3))∧(((((2):Int)=(2))∧True)∧(((((3):Int)=(3))∧True)∧(((((5):Int)=(5))∧True)∧True)))))
theorem acz  : VC (aJ Tryz.prog az 900 36 (enc [.one (.i .i64 45)] 0) 0 (fun v H=>dw 0 H v 4 1 (aH 45))) .nil:=ai (((((4):Int)=(4))∧(((((0):Int)=(0))∧True)∧(((((2):Int)=(2))∧True)∧(((((3):Int)=(3))∧True)∧(((((5):Int)=(5))∧True)∧True))))))
theorem acp  : VC (aJ Tryz.prog az 900 36 (enc [.one (.i .i64 46)] 0) 0 (fun v H=>dw 0 H v 4 1 (aH 46))) .nil:=ai (((((4):Int)=(4))∧(((((1):Int)=(1))∧True)∧(((((2):Int)=(2))∧True)∧(((((3):Int)=(3))∧True)∧(((((5):Int)=(5))∧True)∧True))))))
theorem acE  : VC (aJ Tryz.prog az 900 36 (enc [.one (.i .i64 47)] 0) 0 (fun v H=>dw 0 H v 5 1 (aH 47))) .nil:=ai (((((5):Int)=(5))∧(((((0):Int)=(0))∧True)∧(((((1):Int)=(1))∧True)∧(((((2):Int)=(2))∧True)∧(((((3):Int)=(3))∧True)∧(((((5):Int)=(5))∧True)∧True)))))))
theorem adD  : VC (aJ Tryz.prog az 900 36 (enc [.one (.i .i64 48)] 0) 0 (fun v H=>dw 0 H v 2 1 (aH 48))) .nil:=ai (((((2):Int)=(2))∧(((((4):Int)=(4))∧True)∧(((((5):Int)=(5))∧True)∧True))))
theorem acP  : VC (aJ Tryz.prog az 900 36 (enc [.one (.i .i64 49)] 0) 0 (fun v H=>dw 0 H v 3 1 (aH 49))) .nil:=ai (((((3):Int)=(3))∧(((((0):Int)=(0))∧True)∧(((((4):Int)=(4))∧True)∧(((((5):Int)=(5))∧True)∧True)))))
theorem ac6  : VC (aJ Tryz.prog az 900 36 (enc [.one (.i .i64 50)] 0) 0 (fun v H=>dw 0 H v 3 1 (aH 50))) .nil:=ai (((((3):Int)=(3))∧(((((1):Int)=(1))∧True)∧(((((4):Int)=(4))∧True)∧(((((5):Int)=(5))∧True)∧True)))))
theorem abN  : VC (aJ Tryz.prog az 900 36 (enc [.one (.i .i64 51)] 0) 0 (fun v H=>dw 0 H v 4 1 (aH 51))) .nil:=ai (((((4):Int)=(4))∧(((((0):Int)=(0))∧True)∧(((((1):Int)=(1))∧True)∧(((((4):Int)=(4))∧True)∧(((((5):Int)=(5))∧True)∧True))))))
theorem ach  : VC (aJ Tryz.prog az 900 36 (enc [.one (.i .i64 52)] 0) 0 (fun v H=>dw 0 H v 3 1 (aH 52))) .nil:=ai (((((3):Int)=(3))∧(((((2):Int)=(2))∧True)∧(((((4):Int)=(4))∧True)∧(((((5):Int)=(5))∧True)∧True)))))
theorem adh  : VC (aJ Tryz.prog az 900 36 (enc [.one (.i .i64 53)] 0) 0 (fun v H=>dw 0 H v 4 1 (aH 53))) .nil:=ai (((((4):Int)=(4))∧(((((0):Int)=(0))∧True)∧(((((2):Int)=(2))∧True)∧(((((4):Int)=(4))∧True)∧(((((5):Int)=(5))∧True)∧True))))))
theorem adB  : VC (aJ Tryz.prog az 900 36 (enc [.one (.i .i64 54)] 0) 0 (fun v H=>dw 0 H v 4 1 (aH 54))) .nil:=ai (((((4):Int)=(4))∧(((((1):Int)=(1))∧True)∧(((((2):Int)=(2))∧True)∧(((((4):Int)=(4))∧True)∧(((((5):Int)=(5))∧True)∧True))))))
theorem abR  : VC (aJ Tryz.prog az 900 36 (enc [.one (.i .i64 55)] 0) 0 (fun v H=>dw 0 H v 5 1 (aH 55))) .nil:=ai (((((5):Int)=(5))∧(((((0):Int)=(0))∧True)∧(((((1):Int)=(1))∧True)∧(((((2):Int)=(2))∧True)∧(((((4):Int)=(4))∧True)∧(((((5):Int)=(5))∧True)∧True)))))))
theorem ace  : VC (aJ Tryz.prog az 900 36 (enc [.one (.i .i64 56)] 0) 0 (fun v H=>dw 0 H v 3 1 (aH 56))) .nil:=ai (((((3):Int)=(3))∧(((((3):Int)=(3))∧True)∧(((((4):Int)=(4))∧True)∧(((((5):Int)=(5))∧True)∧True)))))
theorem adF  : VC (aJ Tryz.prog az 900 36 (enc [.one (.i .i64 57)] 0) 0 (fun v H=>dw 0 H v 4 1 (aH 57))) .nil:=ai (((((4):Int)=(4))∧(((((0):Int)=(0))∧True)∧(((((3):Int)=(3))∧True)∧(((((4):Int)=(4))∧True)∧(((((5):Int)=(5))∧True)∧True))))))
theorem ac0  : VC (aJ Tryz.prog az 900 36 (enc [.one (.i .i64 58)] 0) 0 (fun v H=>dw 0 H v 4 1 (aH 58))) .nil:=ai (((((4):Int)=(4))∧(((((1):Int)=(1))∧True)∧(((((3):Int)=(3))∧True)∧(((((4):Int)=(4))∧True)∧(((((5):Int)=(5))∧True)∧True))))))
theorem adU  : VC (aJ Tryz.prog az 900 36 (enc [.one (.i .i64 59)] 0) 0 (fun v H=>dw 0 H v 5 1 (aH 59))) .nil:=ai (((((5):Int)=(5))∧(((((0):Int)=(0))∧True)∧(((((1):Int)=(1))∧True)∧(((((3):Int)=(3))∧True)∧(((((4):Int)=(4))∧True)∧(((((5):Int)=(5))∧True)∧True)))))))
theorem acj  : VC (aJ Tryz.prog az 900 36 (enc [.one (.i .i64 60)] 0) 0 (fun v H=>dw 0 H v 4 1 (aH 60))) .nil:=ai (((((4):Int)=(4))∧(((((2):Int)=(2))∧True)∧(((((3):Int)=(3))∧True)∧(((((4):Int)=(4))∧True)∧(((((5):Int)=(5))∧True)∧True))))))
theorem adE  : VC (aJ Tryz.prog az 900 36 (enc [.one (.i .i64 61)] 0) 0 (fun v H=>dw 0 H v 5 1 (aH 61))) .nil:=ai (((((5):Int)=(5))∧(((((0):Int)=(0))∧True)∧(((((2):Int)=(2))∧True)∧(((((3):Int)=(3))∧True)∧(((((4):Int)=(4))∧True)∧(((((5):Int)=(5))∧True)∧True)))))))
theorem adY  : VC (aJ Tryz.prog az 900 36 (enc [.one (.i .i64 62)] 0) 0 (fun v H=>dw 0 H v 5 1 (aH 62))) .nil:=ai (((((5):Int)=(5))∧(((((1):Int)=(1))∧True)∧(((((2):Int)=(2))∧True)∧(((((3):Int)=(3))∧True)∧(((((4):Int)=(4))∧True)∧(((((5):Int)=(5))∧True)∧True)))))))
theorem adt  : VC (aJ Tryz.prog az 900 36 (enc [.one (.i .i64 63)] 0) 0 (fun v H=>dw 0 H v 6 1 (aH 63))) .nil:=ai (((((6):Int)=(6))∧(((((0):Int)=(0))∧True)∧(((((1):Int)=(1))∧True)∧(((((2):Int)=(2))∧True)∧(((((3):Int)=(3))∧True)∧(((((4):Int)=(4))∧True)∧(((((5):Int)=(5))∧True)∧True))))))))
def UX:Val:=fun das=>match das with | [.one (.i .i64 b)]=>some (cond (ak 0 b) (ak b 63) false,.fz true 0 (ae .i64 (aH b)) (aC b) 1) | _=>none
theorem aao:WJ Tryz.prog 36 UX:=by
 intro das v hv
 unfold UX at hv
 split at hv
 ·rename_i b
  have hb:=congrArg Prod.fst (Option.some.inj hv)
  have hv:=congrArg Prod.snd (Option.some.inj hv)
  subst hv
  obtain ⟨h1,h2⟩:=ah hb
  rw [aW] at h1 h2
  have fin:∀ {c:Int} {m:Nat} {h:HT},aC c=m→VC (aJ Tryz.prog az 900 36 (enc [.one (.i .i64 c)] 0) 0 (fun v H=>dw 0 H v m 1 (aH c))) h→∃ v' H',SpecCall Tryz.prog 36 (enc [.one (.i .i64 c)] 0) (aU 1) v' H'∧∀ new,FnV H' 0 new v' (JD new (.fz true 0 (ae .i64 (aH c)) (aC c) 1)):=fun e hvc=>by
   subst e
   obtain ⟨v',H',h1,h2⟩:=aY aj aG hvc
   exact ⟨v',H',h1,fun new => .one (.one (FX h2 new))⟩
  obtain ⟨k,rfl⟩:∃ k:Nat,b=Int.ofNat k:=⟨Int.toNat b,by have:(Int.toNat b:Int)=b:=Int.toNat_of_nonneg h1;exact this.symm⟩
  have hk:k<64:=by have h2:(k:Int)≤63:=h2;omega
  match k,hk with
  | 0,_=>exact fin rfl bi0
  | 1,_=>exact fin rfl bi1
  | 2,_=>exact fin rfl bi2
  | 3,_=>exact fin rfl bi3
  | 4,_=>exact fin rfl bi4
  | 5,_=>exact fin rfl bi5
  | 6,_=>exact fin rfl bi6
  | 7,_=>exact fin rfl bi7
  | 8,_=>exact fin rfl bi8
  | 9,_=>exact fin rfl bi9
  | 10,_=>exact fin rfl ab9
  | 11,_=>exact fin rfl acg
  | 12,_=>exact fin rfl ads
  | 13,_=>exact fin rfl adL
  | 14,_=>exact fin rfl aeb
  | 15,_=>exact fin rfl abY
  | 16,_=>exact fin rfl acU
  | 17,_=>exact fin rfl acO
  | 18,_=>exact fin rfl abX
  | 19,_=>exact fin rfl adR
  | 20,_=>exact fin rfl adb
  | 21,_=>exact fin rfl acb
  | 22,_=>exact fin rfl ac9
  | 23,_=>exact fin rfl abQ
  | 24,_=>exact fin rfl acY
  | 25,_=>exact fin rfl adK
  | 26,_=>exact fin rfl adW
  | 27,_=>exact fin rfl acA
  | 28,_=>exact fin rfl abZ
  | 29,_=>exact fin rfl acS
  | 30,_=>exact fin rfl adH
  | 31,_=>exact fin rfl adu
  | 32,_=>exact fin rfl acG
  | 33,_=>exact fin rfl adO
  | 34,_=>exact fin rfl abO
  | 35,_=>exact fin rfl acH
  | 36,_=>exact fin rfl ad3
  | 37,_=>exact fin rfl ad1
  | 38,_=>exact fin rfl aco
  | 39,_=>exact fin rfl ab1
  | 40,_=>exact fin rfl acI
  | 41,_=>exact fin rfl ac2
  | 42,_=>exact fin rfl acQ
  | 43,_=>exact fin rfl ab5
  | 44,_=>exact fin rfl abV
  | 45,_=>exact fin rfl acz
  | 46,_=>exact fin rfl acp
  | 47,_=>exact fin rfl acE
  | 48,_=>exact fin rfl adD
  | 49,_=>exact fin rfl acP
  | 50,_=>exact fin rfl ac6
  | 51,_=>exact fin rfl abN
  | 52,_=>exact fin rfl ach
  | 53,_=>exact fin rfl adh
  | 54,_=>exact fin rfl adB
  | 55,_=>exact fin rfl abR
  | 56,_=>exact fin rfl ace
  | 57,_=>exact fin rfl adF
  | 58,_=>exact fin rfl ac0
  | 59,_=>exact fin rfl adU
  | 60,_=>exact fin rfl acj
  | 61,_=>exact fin rfl adE
  | 62,_=>exact fin rfl adY
  | 63,_=>exact fin rfl adt
 ·cases hv
theorem rX (n i:Nat) (l:List Int):Rw (Au n i l)≤Rw l+1:=by
 unfold Au
 cases Nat.beq (Nat.mod (Nat.div n (Nat.pow 2 i)) 2) 1 with
 | true=>exact Nat.le_refl _
 | false=>exact Nat.le_succ _
theorem gm (b:Int):aC b≤6:=by
 unfold aC biL
 have h0:Rw []=0:=rfl
 have h5:=rX (Int.toNat b) 5 []
 have h4:=rX (Int.toNat b) 4 (Au (Int.toNat b) 5 [])
 have h3:=rX (Int.toNat b) 3 (Au (Int.toNat b) 4 (Au (Int.toNat b) 5 []))
 have h2:=rX (Int.toNat b) 2 (Au (Int.toNat b) 3 (Au (Int.toNat b) 4 (Au (Int.toNat b) 5 [])))
 have h1:=rX (Int.toNat b) 1 (Au (Int.toNat b) 2 (Au (Int.toNat b) 3 (Au (Int.toNat b) 4 (Au (Int.toNat b) 5 []))))
 have h:=rX (Int.toNat b) 0 (Au (Int.toNat b) 1 (Au (Int.toNat b) 2 (Au (Int.toNat b) 3 (Au (Int.toNat b) 4 (Au (Int.toNat b) 5 [])))))
 omega
end
end BL
end Go.Proofs.YtiplgejpopellaaGreat
