/- Casks: lists by bits, and the reference's strength of a blend, as contracts. -/
import Derived.Test.YtiplgejpopellaaGreatYPrS4
import Derived.Test.YtiplgejpopellaaGreatYPrL3
import Derived.Test.YtiplgejpopellaaGreatYEe
set_option linter.all false
set_option linter.unusedSimpArgs false
set_option linter.unusedVariables false
namespace Go.Proofs.YtiplgejpopellaaGreat
namespace BL
open Go Go.Ev
set_option maxRecDepth 1000000
set_option maxHeartbeats 0
noncomputable section
variable (A:Nat) (B:Nat→Nat→Int) (I:Nat) (J:Nat→Nat→Int) (n:Nat) (M:Nat→Nat) (f:Nat→Nat→Nat→Int)
theorem gV {k:Nat} {H:EH} {v:V} {len e:Nat} {f:Nat→Nat→Int} (h:bY k H v len e f) (new:Nat):Fn0 H k new v (.fz true new (ae .i64 f) len e):=by
 unfold bY at h
 split at h
 ·have h:(0:Nat)=len:=by injection h
  subst h
  exact .nilS
 ·obtain ⟨h1,h2⟩:=dI h
  obtain ⟨_,rfl,rfl,rfl⟩:=Di h2
  exact .fz (bV h1) (fun _ _ _ _=>rfl) (fun _ _ _ _ => .int _ _) (fun _ _ _ _ => .int _ _)
 ·rename_i b off l e'
  obtain ⟨h1,h2⟩:=h
  have h1:l=len:=by injection h1
  subst h1
  split at h2
  ·rename_i c lo sz g hb
   obtain ⟨q1,h3⟩:=dI h2
   clear h2
   obtain ⟨q2,h4⟩:=dI h3
   clear h3
   obtain ⟨q3,h5⟩:=dI h4
   clear h4
   have:=nb q1
   subst this
   have q2:=Nat.le_of_ble_eq_true q2
   have q3:off+l*e'≤sz:=Nat.le_of_ble_eq_true q3
   refine .slice (d:=ae .i64 f) hb q2 q3 (fun i j hi hj=>?_) (fun _ _ _ _=>rfl) (fun _ _ _ _ => .int _ _) (fun _ _ _ _ => .int _ _)
   have:=yJ h5 i j hi hj
   rw [Nat.zero_add] at this
   exact this
  ·exact h2.elim
 ·exact h.elim
def yC (n i:Nat) (l:List Int):List Int:=cond (Nat.beq (Nat.mod (Nat.div n (Nat.pow 2 i)) 2) 1) (Int.ofNat i::l) l
def biL (n:Nat):List Int:=yC n 0 (yC n 1 (yC n 2 (yC n 3 (yC n 4 (yC n 5 [])))))
def RD (l:List Int):Nat:=List.rec (motive:=fun _=>Nat) 0 (fun _ _ ih=>Nat.succ ih) l
def biF (n:Int) (i _j:Nat):Int:=Vm (biL (Int.toNat n)) i
def biN (n:Int):Nat:=RD (biL (Int.toNat n))
theorem bi0  : VC (aN Tryz.prog aA 900 36 (enc [.one (.i .i64 0)] 0) 0 (fun v H=>bY 0 H v 0 1 (biF 0))) .nil:=ak ((((0):Int)=(0)))
theorem bi1  : VC (aN Tryz.prog aA 900 36 (enc [.one (.i .i64 1)] 0) 0 (fun v H=>bY 0 H v 1 1 (biF 1))) .nil:=ak (((((1):Int)=(1))∧(((((0):Int)=(0))∧True)∧True)))
theorem bi2  : VC (aN Tryz.prog aA 900 36 (enc [.one (.i .i64 2)] 0) 0 (fun v H=>bY 0 H v 1 1 (biF 2))) .nil:=ak (((((1):Int)=(1))∧(((((1):Int)=(1))∧True)∧True)))
theorem bi3  : VC (aN Tryz.prog aA 900 36 (enc [.one (.i .i64 3)] 0) 0 (fun v H=>bY 0 H v 2 1 (biF 3))) .nil:=ak (((((2):Int)=(2))∧(((((0):Int)=(0))∧True)∧(((((1):Int)=(1))∧True)∧True))))
theorem bi4  : VC (aN Tryz.prog aA 900 36 (enc [.one (.i .i64 4)] 0) 0 (fun v H=>bY 0 H v 1 1 (biF 4))) .nil:=ak (((((1):Int)=(1))∧(((((2):Int)=(2))∧True)∧True)))
theorem bi5  : VC (aN Tryz.prog aA 900 36 (enc [.one (.i .i64 5)] 0) 0 (fun v H=>bY 0 H v 2 1 (biF 5))) .nil:=ak (((((2):Int)=(2))∧(((((0):Int)=(0))∧True)∧(((((2):Int)=(2))∧True)∧True))))
theorem bi6  : VC (aN Tryz.prog aA 900 36 (enc [.one (.i .i64 6)] 0) 0 (fun v H=>bY 0 H v 2 1 (biF 6))) .nil:=ak (((((2):Int)=(2))∧(((((1):Int)=(1))∧True)∧(((((2):Int)=(2))∧True)∧True))))
theorem bi7  : VC (aN Tryz.prog aA 900 36 (enc [.one (.i .i64 7)] 0) 0 (fun v H=>bY 0 H v 3 1 (biF 7))) .nil:=ak (((((3):Int)=(3))∧(((((0):Int)=(0))∧True)∧(((((1):Int)=(1))∧True)∧(((((2):Int)=(2))∧True)∧True)))))
theorem bi8  : VC (aN Tryz.prog aA 900 36 (enc [.one (.i .i64 8)] 0) 0 (fun v H=>bY 0 H v 1 1 (biF 8))) .nil:=ak (((((1):Int)=(1))∧(((((3):Int)=(3))∧True)∧True)))
theorem bi9  : VC (aN Tryz.prog aA 900 36 (enc [.one (.i .i64 9)] 0) 0 (fun v H=>bY 0 H v 2 1 (biF 9))) .nil:=ak (((((2):Int)=(2))∧(((((0):Int)=(0))∧True)∧(((((3):Int)=(3))∧True)∧True))))
theorem abX  : VC (aN Tryz.prog aA 900 36 (enc [.one (.i .i64 10)] 0) 0 (fun v H=>bY 0 H v 2 1 (biF 10))) .nil:=ak (((((2):Int)=(2))∧(((((1):Int)=(1))∧True)∧(((((3):Int)=(3))∧True)∧True))))
theorem acg  : VC (aN Tryz.prog aA 900 36 (enc [.one (.i .i64 11)] 0) 0 (fun v H=>bY 0 H v 3 1 (biF 11))) .nil:=ak (((((3):Int)=(3))∧(((((0):Int)=(0))∧True)∧(((((1):Int)=(1))∧True)∧(((((3):Int)=(3))∧True)∧True)))))
theorem aa0  : VC (aN Tryz.prog aA 900 36 (enc [.one (.i .i64 12)] 0) 0 (fun v H=>bY 0 H v 2 1 (biF 12))) .nil:=ak (((((2):Int)=(2))∧(((((2):Int)=(2))∧True)∧(((((3):Int)=(3))∧True)∧True))))
theorem aaM  : VC (aN Tryz.prog aA 900 36 (enc [.one (.i .i64 13)] 0) 0 (fun v H=>bY 0 H v 3 1 (biF 13))) .nil:=ak (((((3):Int)=(3))∧(((((0):Int)=(0))∧True)∧(((((2):Int)=(2))∧True)∧(((((3):Int)=(3))∧True)∧True)))))
theorem abK  : VC (aN Tryz.prog aA 900 36 (enc [.one (.i .i64 14)] 0) 0 (fun v H=>bY 0 H v 3 1 (biF 14))) .nil:=ak (((((3):Int)=(3))∧(((((1):Int)=(1))∧True)∧(((((2):Int)=(2))∧True)∧(((((3):Int)=(3))∧True)∧True)))))
theorem ach  : VC (aN Tryz.prog aA 900 36 (enc [.one (.i .i64 15)] 0) 0 (fun v H=>bY 0 H v 4 1 (biF 15))) .nil:=ak (((((4):Int)=(4))∧(((((0):Int)=(0))∧True)∧(((((1):Int)=(1))∧True)∧(((((2):Int)=(2))∧True)∧(((((3):Int)=(3))∧True)∧True))))))
theorem abJ  : VC (aN Tryz.prog aA 900 36 (enc [.one (.i .i64 16)] 0) 0 (fun v H=>bY 0 H v 1 1 (biF 16))) .nil:=ak (((((1):Int)=(1))∧(((((4):Int)=(4))∧True)∧True)))
theorem aaj  : VC (aN Tryz.prog aA 900 36 (enc [.one (.i .i64 17)] 0) 0 (fun v H=>bY 0 H v 2 1 (biF 17))) .nil:=ak (((((2):Int)=(2))∧(((((0):Int)=(0))∧True)∧(((((4):Int)=(4))∧True)∧True))))
theorem aa'  : VC (aN Tryz.prog aA 900 36 (enc [.one (.i .i64 18)] 0) 0 (fun v H=>bY 0 H v 2 1 (biF 18))) .nil:=ak (((((2):Int)=(2))∧(((((1):Int)=(1))∧True)∧(((((4):Int)=(4))∧True)∧True))))
theorem abz  : VC (aN Tryz.prog aA 900 36 (enc [.one (.i .i64 19)] 0) 0 (fun v H=>bY 0 H v 3 1 (biF 19))) .nil:=ak (((((3):Int)=(3))∧(((((0):Int)=(0))∧True)∧(((((1):Int)=(1))∧True)∧(((((4):Int)=(4))∧True)∧True)))))
theorem aam  : VC (aN Tryz.prog aA 900 36 (enc [.one (.i .i64 20)] 0) 0 (fun v H=>bY 0 H v 2 1 (biF 20))) .nil:=ak (((((2):Int)=(2))∧(((((2):Int)=(2))∧True)∧(((((4):Int)=(4))∧True)∧True))))
theorem aas  : VC (aN Tryz.prog aA 900 36 (enc [.one (.i .i64 21)] 0) 0 (fun v H=>bY 0 H v 3 1 (biF 21))) .nil:=ak (((((3):Int)=(3))∧(((((0):Int)=(0))∧True)∧(((((2):Int)=(2))∧True)∧(((((4):Int)=(4))∧True)∧True)))))
theorem aal  : VC (aN Tryz.prog aA 900 36 (enc [.one (.i .i64 22)] 0) 0 (fun v H=>bY 0 H v 3 1 (biF 22))) .nil:=ak (((((3):Int)=(3))∧(((((1):Int)=(1))∧True)∧(((((2):Int)=(2))∧True)∧(((((4):Int)=(4))∧True)∧True)))))
theorem aa9  : VC (aN Tryz.prog aA 900 36 (enc [.one (.i .i64 23)] 0) 0 (fun v H=>bY 0 H v 4 1 (biF 23))) .nil:=ak (((((4):Int)=(4))∧(((((0):Int)=(0))∧True)∧(((((1):Int)=(1))∧True)∧(((((2):Int)=(2))∧True)∧(((((4):Int)=(4))∧True)∧True))))))
theorem ab6  : VC (aN Tryz.prog aA 900 36 (enc [.one (.i .i64 24)] 0) 0 (fun v H=>bY 0 H v 2 1 (biF 24))) .nil:=ak (((((2):Int)=(2))∧(((((3):Int)=(3))∧True)∧(((((4):Int)=(4))∧True)∧True))))
theorem abg  : VC (aN Tryz.prog aA 900 36 (enc [.one (.i .i64 25)] 0) 0 (fun v H=>bY 0 H v 3 1 (biF 25))) .nil:=ak (((((3):Int)=(3))∧(((((0):Int)=(0))∧True)∧(((((3):Int)=(3))∧True)∧(((((4):Int)=(4))∧True)∧True)))))
theorem abZ  : VC (aN Tryz.prog aA 900 36 (enc [.one (.i .i64 26)] 0) 0 (fun v H=>bY 0 H v 3 1 (biF 26))) .nil:=ak (((((3):Int)=(3))∧(((((1):Int)=(1))∧True)∧(((((3):Int)=(3))∧True)∧(((((4):Int)=(4))∧True)∧True)))))
theorem aaT  : VC (aN Tryz.prog aA 900 36 (enc [.one (.i .i64 27)] 0) 0 (fun v H=>bY 0 H v 4 1 (biF 27))) .nil:=ak (((((4):Int)=(4))∧(((((0):Int)=(0))∧True)∧(((((1):Int)=(1))∧True)∧(((((3):Int)=(3))∧True)∧(((((4):Int)=(4))∧True)∧True))))))
theorem ab7  : VC (aN Tryz.prog aA 900 36 (enc [.one (.i .i64 28)] 0) 0 (fun v H=>bY 0 H v 3 1 (biF 28))) .nil:=ak (((((3):Int)=(3))∧(((((2):Int)=(2))∧True)∧(((((3):Int)=(3))∧True)∧(((((4):Int)=(4))∧True)∧True)))))
theorem aaA  : VC (aN Tryz.prog aA 900 36 (enc [.one (.i .i64 29)] 0) 0 (fun v H=>bY 0 H v 4 1 (biF 29))) .nil:=ak (((((4):Int)=(4))∧(((((0):Int)=(0))∧True)∧(((((2):Int)=(2))∧True)∧(((((3):Int)=(3))∧True)∧(((((4):Int)=(4))∧True)∧True))))))
theorem abT  : VC (aN Tryz.prog aA 900 36 (enc [.one (.i .i64 30)] 0) 0 (fun v H=>bY 0 H v 4 1 (biF 30))) .nil:=ak (((((4):Int)=(4))∧(((((1):Int)=(1))∧True)∧(((((2):Int)=(2))∧True)∧(((((3):Int)=(3))∧True)∧(((((4):Int)=(4))∧True)∧True))))))
theorem aaX  : VC (aN Tryz.prog aA 900 36 (enc [.one (.i .i64 31)] 0) 0 (fun v H=>bY 0 H v 5 1 (biF 31))) .nil:=ak (((((5):Int)=(5))∧(((((0):Int)=(0))∧True)∧(((((1):Int)=(1))∧True)∧(((((2):Int)=(2))∧True)∧(((((3):Int)=(3))∧True)∧(((((4):Int)=(4))∧True)∧True)))))))
theorem abu  : VC (aN Tryz.prog aA 900 36 (enc [.one (.i .i64 32)] 0) 0 (fun v H=>bY 0 H v 1 1 (biF 32))) .nil:=ak (((((1):Int)=(1))∧(((((5):Int)=(5))∧True)∧True)))
theorem aaE  : VC (aN Tryz.prog aA 900 36 (enc [.one (.i .i64 33)] 0) 0 (fun v H=>bY 0 H v 2 1 (biF 33))) .nil:=ak (((((2):Int)=(2))∧(((((0):Int)=(0))∧True)∧(((((5):Int)=(5))∧True)∧True))))
theorem aaQ  : VC (aN Tryz.prog aA 900 36 (enc [.one (.i .i64 34)] 0) 0 (fun v H=>bY 0 H v 2 1 (biF 34))) .nil:=ak (((((2):Int)=(2))∧(((((1):Int)=(1))∧True)∧(((((5):Int)=(5))∧True)∧True))))
theorem acf  : VC (aN Tryz.prog aA 900 36 (enc [.one (.i .i64 35)] 0) 0 (fun v H=>bY 0 H v 3 1 (biF 35))) .nil:=ak (((((3):Int)=(3))∧(((((0):Int)=(0))∧True)∧(((((1):Int)=(1))∧True)∧(((((5):Int)=(5))∧True)∧True)))))
theorem aak  : VC (aN Tryz.prog aA 900 36 (enc [.one (.i .i64 36)] 0) 0 (fun v H=>bY 0 H v 2 1 (biF 36))) .nil:=ak (((((2):Int)=(2))∧(((((2):Int)=(2))∧True)∧(((((5):Int)=(5))∧True)∧True))))
theorem aaV  : VC (aN Tryz.prog aA 900 36 (enc [.one (.i .i64 37)] 0) 0 (fun v H=>bY 0 H v 3 1 (biF 37))) .nil:=ak (((((3):Int)=(3))∧(((((0):Int)=(0))∧True)∧(((((2):Int)=(2))∧True)∧(((((5):Int)=(5))∧True)∧True)))))
theorem aci  : VC (aN Tryz.prog aA 900 36 (enc [.one (.i .i64 38)] 0) 0 (fun v H=>bY 0 H v 3 1 (biF 38))) .nil:=ak (((((3):Int)=(3))∧(((((1):Int)=(1))∧True)∧(((((2):Int)=(2))∧True)∧(((((5):Int)=(5))∧True)∧True)))))
theorem abS  : VC (aN Tryz.prog aA 900 36 (enc [.one (.i .i64 39)] 0) 0 (fun v H=>bY 0 H v 4 1 (biF 39))) .nil:=ak (((((4):Int)=(4))∧(((((0):Int)=(0))∧True)∧(((((1):Int)=(1))∧True)∧(((((2):Int)=(2))∧True)∧(((((5):Int)=(5))∧True)∧True))))))
theorem aaS  : VC (aN Tryz.prog aA 900 36 (enc [.one (.i .i64 40)] 0) 0 (fun v H=>bY 0 H v 2 1 (biF 40))) .nil:=ak (((((2):Int)=(2))∧(((((3):Int)=(3))∧True)∧(((((5):Int)=(5))∧True)∧True))))
theorem abW  : VC (aN Tryz.prog aA 900 36 (enc [.one (.i .i64 41)] 0) 0 (fun v H=>bY 0 H v 3 1 (biF 41))) .nil:=ak (((((3):Int)=(3))∧(((((0):Int)=(0))∧True)∧(((((3):Int)=(3))∧True)∧(((((5):Int)=(5))∧True)∧True)))))
theorem aa2  : VC (aN Tryz.prog aA 900 36 (enc [.one (.i .i64 42)] 0) 0 (fun v H=>bY 0 H v 3 1 (biF 42))) .nil:=ak (((((3):Int)=(3))∧(((((1):Int)=(1))∧True)∧(((((3):Int)=(3))∧True)∧(((((5):Int)=(5))∧True)∧True)))))
theorem abV  : VC (aN Tryz.prog aA 900 36 (enc [.one (.i .i64 43)] 0) 0 (fun v H=>bY 0 H v 4 1 (biF 43))) .nil:=ak (((((4):Int)=(4))∧(((((0):Int)=(0))∧True)∧(((((1):Int)=(1))∧True)∧(((((3):Int)=(3))∧True)∧(((((5):Int)=(5))∧True)∧True))))))
theorem aaq  : VC (aN Tryz.prog aA 900 36 (enc [.one (.i .i64 44)] 0) 0 (fun v H=>bY 0 H v 3 1 (biF 44))) .nil:=ak (((((3):Int)=(3))∧(((((2):Int)=(2))∧True)∧(((((3):Int)=(3))∧True)∧(((((5):Int)=(5))∧True)∧True)))))
theorem abv  : VC (aN Tryz.prog aA 900 36 (enc [.one (.i .i64 45)] 0) 0 (fun v H=>bY 0 H v 4 1 (biF 45))) .nil:=ak (((((4):Int)=(4))∧(((((0):Int)=(0))∧True)∧(((((2):Int)=(2))∧True)∧(((((3):Int)=(3))∧True)∧(((((5):Int)=(5))∧True)∧True))))))
theorem abO  : VC (aN Tryz.prog aA 900 36 (enc [.one (.i .i64 46)] 0) 0 (fun v H=>bY 0 H v 4 1 (biF 46))) .nil:=ak (((((4):Int)=(4))∧(((((1):Int)=(1))∧True)∧(((((2):Int)=(2))∧True)∧(((((3):Int)=(3))∧True)∧(((((5):Int)=(5))∧True)∧True))))))
theorem abp  : VC (aN Tryz.prog aA 900 36 (enc [.one (.i .i64 47)] 0) 0 (fun v H=>bY 0 H v 5 1 (biF 47))) .nil:=ak (((((5):Int)=(5))∧(((((0):Int)=(0))∧True)∧(((((1):Int)=(1))∧True)∧(((((2):Int)=(2))∧True)∧(((((3):Int)=(3))∧True)∧(((((5):Int)=(5))∧True)∧True)))))))
theorem acb  : VC (aN Tryz.prog aA 900 36 (enc [.one (.i .i64 48)] 0) 0 (fun v H=>bY 0 H v 2 1 (biF 48))) .nil:=ak (((((2):Int)=(2))∧(((((4):Int)=(4))∧True)∧(((((5):Int)=(5))∧True)∧True))))
theorem aca  : VC (aN Tryz.prog aA 900 36 (enc [.one (.i .i64 49)] 0) 0 (fun v H=>bY 0 H v 3 1 (biF 49))) .nil:=ak (((((3):Int)=(3))∧(((((0):Int)=(0))∧True)∧(((((4):Int)=(4))∧True)∧(((((5):Int)=(5))∧True)∧True)))))
theorem aaZ  : VC (aN Tryz.prog aA 900 36 (enc [.one (.i .i64 50)] 0) 0 (fun v H=>bY 0 H v 3 1 (biF 50))) .nil:=ak (((((3):Int)=(3))∧(((((1):Int)=(1))∧True)∧(((((4):Int)=(4))∧True)∧(((((5):Int)=(5))∧True)∧True)))))
theorem aaG  : VC (aN Tryz.prog aA 900 36 (enc [.one (.i .i64 51)] 0) 0 (fun v H=>bY 0 H v 4 1 (biF 51))) .nil:=ak (((((4):Int)=(4))∧(((((0):Int)=(0))∧True)∧(((((1):Int)=(1))∧True)∧(((((4):Int)=(4))∧True)∧(((((5):Int)=(5))∧True)∧True))))))
theorem abd  : VC (aN Tryz.prog aA 900 36 (enc [.one (.i .i64 52)] 0) 0 (fun v H=>bY 0 H v 3 1 (biF 52))) .nil:=ak (((((3):Int)=(3))∧(((((2):Int)=(2))∧True)∧(((((4):Int)=(4))∧True)∧(((((5):Int)=(5))∧True)∧True)))))
theorem ace  : VC (aN Tryz.prog aA 900 36 (enc [.one (.i .i64 53)] 0) 0 (fun v H=>bY 0 H v 4 1 (biF 53))) .nil:=ak (((((4):Int)=(4))∧(((((0):Int)=(0))∧True)∧(((((2):Int)=(2))∧True)∧(((((4):Int)=(4))∧True)∧(((((5):Int)=(5))∧True)∧True))))))
theorem ab5  : VC (aN Tryz.prog aA 900 36 (enc [.one (.i .i64 54)] 0) 0 (fun v H=>bY 0 H v 4 1 (biF 54))) .nil:=ak (((((4):Int)=(4))∧(((((1):Int)=(1))∧True)∧(((((2):Int)=(2))∧True)∧(((((4):Int)=(4))∧True)∧(((((5):Int)=(5))∧True)∧True))))))
theorem abC  : VC (aN Tryz.prog aA 900 36 (enc [.one (.i .i64 55)] 0) 0 (fun v H=>bY 0 H v 5 1 (biF 55))) .nil:=ak (((((5):Int)=(5))∧(((((0):Int)=(0))∧True)∧(((((1):Int)=(1))∧True)∧(((((2):Int)=(2))∧True)∧(((((4):Int)=(4))∧True)∧(((((5):Int)=(5))∧True)∧True)))))))
theorem aaN  : VC (aN Tryz.prog aA 900 36 (enc [.one (.i .i64 56)] 0) 0 (fun v H=>bY 0 H v 3 1 (biF 56))) .nil:=ak (((((3):Int)=(3))∧(((((3):Int)=(3))∧True)∧(((((4):Int)=(4))∧True)∧(((((5):Int)=(5))∧True)∧True)))))
theorem abP  : VC (aN Tryz.prog aA 900 36 (enc [.one (.i .i64 57)] 0) 0 (fun v H=>bY 0 H v 4 1 (biF 57))) .nil:=ak (((((4):Int)=(4))∧(((((0):Int)=(0))∧True)∧(((((3):Int)=(3))∧True)∧(((((4):Int)=(4))∧True)∧(((((5):Int)=(5))∧True)∧True))))))
theorem abM  : VC (aN Tryz.prog aA 900 36 (enc [.one (.i .i64 58)] 0) 0 (fun v H=>bY 0 H v 4 1 (biF 58))) .nil:=ak (((((4):Int)=(4))∧(((((1):Int)=(1))∧True)∧(((((3):Int)=(3))∧True)∧(((((4):Int)=(4))∧True)∧(((((5):Int)=(5))∧True)∧True))))))
theorem abD  : VC (aN Tryz.prog aA 900 36 (enc [.one (.i .i64 59)] 0) 0 (fun v H=>bY 0 H v 5 1 (biF 59))) .nil:=ak (((((5):Int)=(5))∧(((((0):Int)=(0))∧True)∧(((((1):Int)=(1))∧True)∧(((((3):Int)=(3))∧True)∧(((((4):Int)=(4))∧True)∧(((((5):Int)=(5))∧True)∧True)))))))
theorem aaW  : VC (aN Tryz.prog aA 900 36 (enc [.one (.i .i64 60)] 0) 0 (fun v H=>bY 0 H v 4 1 (biF 60))) .nil:=ak (((((4):Int)=(4))∧(((((2):Int)=(2))∧True)∧(((((3):Int)=(3))∧True)∧(((((4):Int)=(4))∧True)∧(((((5):Int)=(5))∧True)∧True))))))
theorem aa5  : VC (aN Tryz.prog aA 900 36 (enc [.one (.i .i64 61)] 0) 0 (fun v H=>bY 0 H v 5 1 (biF 61))) .nil:=ak (((((5):Int)=(5))∧(((((0):Int)=(0))∧True)∧(((((2):Int)=(2))∧True)∧(((((3):Int)=(3))∧True)∧(((((4):Int)=(4))∧True)∧(((((5):Int)=(5))∧True)∧True)))))))
theorem abA  : VC (aN Tryz.prog aA 900 36 (enc [.one (.i .i64 62)] 0) 0 (fun v H=>bY 0 H v 5 1 (biF 62))) .nil:=ak (((((5):Int)=(5))∧(((((1):Int)=(1))∧True)∧(((((2):Int)=(2))∧True)∧(((((3):Int)=(3))∧True)∧(((((4):Int)=(4))∧True)∧(((((5):Int)=(5))∧True)∧True)))))))
theorem abe  : VC (aN Tryz.prog aA 900 36 (enc [.one (.i .i64 63)] 0) 0 (fun v H=>bY 0 H v 6 1 (biF 63))) .nil:=ak (((((6):Int)=(6))∧(((((0):Int)=(0))∧True)∧(((((1):Int)=(1))∧True)∧(((((2):Int)=(2))∧True)∧(((((3):Int)=(3))∧True)∧(((((4):Int)=(4))∧True)∧(((((5):Int)=(5))∧True)∧True))))))))
def Ue:Val:=fun das=>match das with | [.one (.i .i64 b)]=>some (cond (az 0 b) (az b 63) false,.fz true 0 (ae .i64 (biF b)) (biN b) 1) | _=>none
theorem YV:Xh Tryz.prog 36 Ue:=by
 intro das v hv
 unfold Ue at hv
 split at hv
 ·rename_i b
  have hb:=congrArg Prod.fst (Option.some.inj hv)
  have hv:=congrArg Prod.snd (Option.some.inj hv)
  subst hv
  obtain ⟨h1,h2⟩:=ah hb
  rw [aV] at h1 h2
  have fin:∀ {c:Int} {m:Nat} {h:HT},biN c=m→VC (aN Tryz.prog aA 900 36 (enc [.one (.i .i64 c)] 0) 0 (fun v H=>bY 0 H v m 1 (biF c))) h→∃ v' H',SpecCall Tryz.prog 36 (enc [.one (.i .i64 c)] 0) (aP 1) v' H'∧∀ new,FnV H' 0 new v' (Qb new (.fz true 0 (ae .i64 (biF c)) (biN c) 1)):=fun e hvc=>by
   subst e
   obtain ⟨v',H',h1,h2⟩:=aW ax aG hvc
   exact ⟨v',H',h1,fun new => .one (.one (gV h2 new))⟩
  obtain ⟨k,rfl⟩:∃ k:Nat,b=Int.ofNat k:=⟨Int.toNat b,by have:(Int.toNat b:Int)=b:=Int.toNat_of_nonneg h1;exact this.symm⟩
  have hk:k<64:=by have h2:(k:Int)≤63:=h2;omega
  match k,hk with
  | 0,_=>exact fin rfl bi0
  | 1,_=>exact fin rfl bi1
  | 2,_=>exact fin rfl bi2
  | 3,_=>exact fin rfl bi3
  | 4,_=>exact fin rfl bi4
  | 5,_=>exact fin rfl bi5
  | 6,_=>exact fin rfl bi6
  | 7,_=>exact fin rfl bi7
  | 8,_=>exact fin rfl bi8
  | 9,_=>exact fin rfl bi9
  | 10,_=>exact fin rfl abX
  | 11,_=>exact fin rfl acg
  | 12,_=>exact fin rfl aa0
  | 13,_=>exact fin rfl aaM
  | 14,_=>exact fin rfl abK
  | 15,_=>exact fin rfl ach
  | 16,_=>exact fin rfl abJ
  | 17,_=>exact fin rfl aaj
  | 18,_=>exact fin rfl aa'
  | 19,_=>exact fin rfl abz
  | 20,_=>exact fin rfl aam
  | 21,_=>exact fin rfl aas
  | 22,_=>exact fin rfl aal
  | 23,_=>exact fin rfl aa9
  | 24,_=>exact fin rfl ab6
  | 25,_=>exact fin rfl abg
  | 26,_=>exact fin rfl abZ
  | 27,_=>exact fin rfl aaT
  | 28,_=>exact fin rfl ab7
  | 29,_=>exact fin rfl aaA
  | 30,_=>exact fin rfl abT
  | 31,_=>exact fin rfl aaX
  | 32,_=>exact fin rfl abu
  | 33,_=>exact fin rfl aaE
  | 34,_=>exact fin rfl aaQ
  | 35,_=>exact fin rfl acf
  | 36,_=>exact fin rfl aak
  | 37,_=>exact fin rfl aaV
  | 38,_=>exact fin rfl aci
  | 39,_=>exact fin rfl abS
  | 40,_=>exact fin rfl aaS
  | 41,_=>exact fin rfl abW
  | 42,_=>exact fin rfl aa2
  | 43,_=>exact fin rfl abV
  | 44,_=>exact fin rfl aaq
  | 45,_=>exact fin rfl abv
  | 46,_=>exact fin rfl abO
  | 47,_=>exact fin rfl abp
  | 48,_=>exact fin rfl acb
  | 49,_=>exact fin rfl aca
  | 50,_=>exact fin rfl aaZ
  | 51,_=>exact fin rfl aaG
  | 52,_=>exact fin rfl abd
  | 53,_=>exact fin rfl ace
  | 54,_=>exact fin rfl ab5
  | 55,_=>exact fin rfl abC
  | 56,_=>exact fin rfl aaN
  | 57,_=>exact fin rfl abP
  | 58,_=>exact fin rfl abM
  | 59,_=>exact fin rfl abD
  | 60,_=>exact fin rfl aaW
  | 61,_=>exact fin rfl aa5
  | 62,_=>exact fin rfl abA
  | 63,_=>exact fin rfl abe
 ·cases hv
def uB (O:Nat) (b:Int):Int:=Int.tmod b (Int.ofNat (Nat.pow 2 O))
def soF (O:Nat) (b:Int) (i j:Nat):Int:=cond (Nat.beq (biN (uB O b)) 0) (Int.tmod b (Int.ofNat O)) (biF (uB O b) i j)
def soN (O:Nat) (b:Int):Nat:=cond (Nat.beq (biN (uB O b)) 0) 1 (biN (uB O b))
def XSo:Ext:=jI [(36,cfN Ue)] false
theorem jZ:dH Tryz.prog XSo:=dJ (aB (Le YV) bD)
theorem aa4 (r:Int) (E:Nat→Nat→Int) (b:Int) (h:0≤b∧b≤255) (q:0≤Int.tmod b 2∧Int.tmod b 2≤63) (q2:0≤Int.tmod b 1∧Int.tmod b 1≤63) (z:biN (Int.tmod b 2)=0):VC (aN Tryz.prog XSo 900 16 (enc [.st [.sl 1 A B,.sl 1 I J,.rr 1 n M f,.i .i64 r,.sl 5 1 E],.one (.i .u8 b)] 0) 4 (fun v H=>bY 4 H v 1 1 (fun _ _=>Int.tmod b 1))) (.go 1361 .nil):=ak (((small b)=true∧((cond true (cond (az 0 (Int.tmod b 2)) (az (Int.tmod b 2) 63) false) false)=true∧((cu (((BL.biN (Int.tmod b 2)):Nat):Int) 0)=true∧((small b)=true∧((((1):Int)=1)∧(((((Int.tmod b 1):Int)=(Int.tmod b 1))∧True)∧True)))))))
theorem aat (r:Int) (E:Nat→Nat→Int) (b:Int) (h:0≤b∧b≤255) (q:0≤Int.tmod b 2∧Int.tmod b 2≤63) (z:¬ biN (Int.tmod b 2)=0) (z2:biN (Int.tmod b 2)≤6):VC (aN Tryz.prog XSo 900 16 (enc [.st [.sl 1 A B,.sl 1 I J,.rr 1 n M f,.i .i64 r,.sl 5 1 E],.one (.i .u8 b)] 0) 4 (fun v H=>bY 4 H v (biN (Int.tmod b 2)) 1 (biF (Int.tmod b 2)))) (.go 401 .nil):=ak (((small b)=true∧((cond true (cond (az 0 (Int.tmod b 2)) (az (Int.tmod b 2) 63) false) false)=true∧((cu (((BL.biN (Int.tmod b 2)):Nat):Int) 0)=false∧(((V.fz true 6 (ae .i64 (fun (ii jj:Nat)=>(BL.biF (Int.tmod b 2) ii jj))) (BL.biN (Int.tmod b 2)) 1):V)=(V.fz true 6 (ae .i64 (fun (ii jj:Nat)=>(BL.biF (Int.tmod b 2) ii jj))) (BL.biN (Int.tmod b 2)) 1))))))
theorem aax (r:Int) (E:Nat→Nat→Int) (b:Int) (h:0≤b∧b≤255) (q:0≤Int.tmod b 4∧Int.tmod b 4≤63) (q2:0≤Int.tmod b 2∧Int.tmod b 2≤63) (z:biN (Int.tmod b 4)=0):VC (aN Tryz.prog XSo 900 16 (enc [.st [.sl 1 A B,.sl 1 I J,.rr 1 n M f,.i .i64 r,.sl 5 2 E],.one (.i .u8 b)] 0) 4 (fun v H=>bY 4 H v 1 1 (fun _ _=>Int.tmod b 2))) (.go 1361 .nil):=ak (((small b)=true∧((cond true (cond (az 0 (Int.tmod b 4)) (az (Int.tmod b 4) 63) false) false)=true∧((cu (((BL.biN (Int.tmod b 4)):Nat):Int) 0)=true∧((small b)=true∧((((1):Int)=1)∧(((((Int.tmod b 2):Int)=(Int.tmod b 2))∧True)∧True)))))))
theorem abU (r:Int) (E:Nat→Nat→Int) (b:Int) (h:0≤b∧b≤255) (q:0≤Int.tmod b 4∧Int.tmod b 4≤63) (z:¬ biN (Int.tmod b 4)=0) (z2:biN (Int.tmod b 4)≤6):VC (aN Tryz.prog XSo 900 16 (enc [.st [.sl 1 A B,.sl 1 I J,.rr 1 n M f,.i .i64 r,.sl 5 2 E],.one (.i .u8 b)] 0) 4 (fun v H=>bY 4 H v (biN (Int.tmod b 4)) 1 (biF (Int.tmod b 4)))) (.go 401 .nil):=ak (((small b)=true∧((cond true (cond (az 0 (Int.tmod b 4)) (az (Int.tmod b 4) 63) false) false)=true∧((cu (((BL.biN (Int.tmod b 4)):Nat):Int) 0)=false∧(((V.fz true 6 (ae .i64 (fun (ii jj:Nat)=>(BL.biF (Int.tmod b 4) ii jj))) (BL.biN (Int.tmod b 4)) 1):V)=(V.fz true 6 (ae .i64 (fun (ii jj:Nat)=>(BL.biF (Int.tmod b 4) ii jj))) (BL.biN (Int.tmod b 4)) 1))))))
theorem abb (r:Int) (E:Nat→Nat→Int) (b:Int) (h:0≤b∧b≤255) (q:0≤Int.tmod b 8∧Int.tmod b 8≤63) (q2:0≤Int.tmod b 3∧Int.tmod b 3≤63) (z:biN (Int.tmod b 8)=0):VC (aN Tryz.prog XSo 900 16 (enc [.st [.sl 1 A B,.sl 1 I J,.rr 1 n M f,.i .i64 r,.sl 5 3 E],.one (.i .u8 b)] 0) 4 (fun v H=>bY 4 H v 1 1 (fun _ _=>Int.tmod b 3))) (.go 1361 .nil):=ak (((small b)=true∧((cond true (cond (az 0 (Int.tmod b 8)) (az (Int.tmod b 8) 63) false) false)=true∧((cu (((BL.biN (Int.tmod b 8)):Nat):Int) 0)=true∧((small b)=true∧((((1):Int)=1)∧(((((Int.tmod b 3):Int)=(Int.tmod b 3))∧True)∧True)))))))
theorem abQ (r:Int) (E:Nat→Nat→Int) (b:Int) (h:0≤b∧b≤255) (q:0≤Int.tmod b 8∧Int.tmod b 8≤63) (z:¬ biN (Int.tmod b 8)=0) (z2:biN (Int.tmod b 8)≤6):VC (aN Tryz.prog XSo 900 16 (enc [.st [.sl 1 A B,.sl 1 I J,.rr 1 n M f,.i .i64 r,.sl 5 3 E],.one (.i .u8 b)] 0) 4 (fun v H=>bY 4 H v (biN (Int.tmod b 8)) 1 (biF (Int.tmod b 8)))) (.go 401 .nil):=ak (((small b)=true∧((cond true (cond (az 0 (Int.tmod b 8)) (az (Int.tmod b 8) 63) false) false)=true∧((cu (((BL.biN (Int.tmod b 8)):Nat):Int) 0)=false∧(((V.fz true 6 (ae .i64 (fun (ii jj:Nat)=>(BL.biF (Int.tmod b 8) ii jj))) (BL.biN (Int.tmod b 8)) 1):V)=(V.fz true 6 (ae .i64 (fun (ii jj:Nat)=>(BL.biF (Int.tmod b 8) ii jj))) (BL.biN (Int.tmod b 8)) 1))))))
theorem abh (r:Int) (E:Nat→Nat→Int) (b:Int) (h:0≤b∧b≤255) (q:0≤Int.tmod b 16∧Int.tmod b 16≤63) (q2:0≤Int.tmod b 4∧Int.tmod b 4≤63) (z:biN (Int.tmod b 16)=0):VC (aN Tryz.prog XSo 900 16 (enc [.st [.sl 1 A B,.sl 1 I J,.rr 1 n M f,.i .i64 r,.sl 5 4 E],.one (.i .u8 b)] 0) 4 (fun v H=>bY 4 H v 1 1 (fun _ _=>Int.tmod b 4))) (.go 1361 .nil):=ak (((small b)=true∧((cond true (cond (az 0 (Int.tmod b 16)) (az (Int.tmod b 16) 63) false) false)=true∧((cu (((BL.biN (Int.tmod b 16)):Nat):Int) 0)=true∧((small b)=true∧((((1):Int)=1)∧(((((Int.tmod b 4):Int)=(Int.tmod b 4))∧True)∧True)))))))
theorem aaI (r:Int) (E:Nat→Nat→Int) (b:Int) (h:0≤b∧b≤255) (q:0≤Int.tmod b 16∧Int.tmod b 16≤63) (z:¬ biN (Int.tmod b 16)=0) (z2:biN (Int.tmod b 16)≤6):VC (aN Tryz.prog XSo 900 16 (enc [.st [.sl 1 A B,.sl 1 I J,.rr 1 n M f,.i .i64 r,.sl 5 4 E],.one (.i .u8 b)] 0) 4 (fun v H=>bY 4 H v (biN (Int.tmod b 16)) 1 (biF (Int.tmod b 16)))) (.go 401 .nil):=ak (((small b)=true∧((cond true (cond (az 0 (Int.tmod b 16)) (az (Int.tmod b 16) 63) false) false)=true∧((cu (((BL.biN (Int.tmod b 16)):Nat):Int) 0)=false∧(((V.fz true 6 (ae .i64 (fun (ii jj:Nat)=>(BL.biF (Int.tmod b 16) ii jj))) (BL.biN (Int.tmod b 16)) 1):V)=(V.fz true 6 (ae .i64 (fun (ii jj:Nat)=>(BL.biF (Int.tmod b 16) ii jj))) (BL.biN (Int.tmod b 16)) 1))))))
theorem ab4 (r:Int) (E:Nat→Nat→Int) (b:Int) (h:0≤b∧b≤255) (q:0≤Int.tmod b 32∧Int.tmod b 32≤63) (q2:0≤Int.tmod b 5∧Int.tmod b 5≤63) (z:biN (Int.tmod b 32)=0):VC (aN Tryz.prog XSo 900 16 (enc [.st [.sl 1 A B,.sl 1 I J,.rr 1 n M f,.i .i64 r,.sl 5 5 E],.one (.i .u8 b)] 0) 4 (fun v H=>bY 4 H v 1 1 (fun _ _=>Int.tmod b 5))) (.go 1361 .nil):=ak (((small b)=true∧((cond true (cond (az 0 (Int.tmod b 32)) (az (Int.tmod b 32) 63) false) false)=true∧((cu (((BL.biN (Int.tmod b 32)):Nat):Int) 0)=true∧((small b)=true∧((((1):Int)=1)∧(((((Int.tmod b 5):Int)=(Int.tmod b 5))∧True)∧True)))))))
theorem aa3 (r:Int) (E:Nat→Nat→Int) (b:Int) (h:0≤b∧b≤255) (q:0≤Int.tmod b 32∧Int.tmod b 32≤63) (z:¬ biN (Int.tmod b 32)=0) (z2:biN (Int.tmod b 32)≤6):VC (aN Tryz.prog XSo 900 16 (enc [.st [.sl 1 A B,.sl 1 I J,.rr 1 n M f,.i .i64 r,.sl 5 5 E],.one (.i .u8 b)] 0) 4 (fun v H=>bY 4 H v (biN (Int.tmod b 32)) 1 (biF (Int.tmod b 32)))) (.go 401 .nil):=ak (((small b)=true∧((cond true (cond (az 0 (Int.tmod b 32)) (az (Int.tmod b 32) 63) false) false)=true∧((cu (((BL.biN (Int.tmod b 32)):Nat):Int) 0)=false∧(((V.fz true 6 (ae .i64 (fun (ii jj:Nat)=>(BL.biF (Int.tmod b 32) ii jj))) (BL.biN (Int.tmod b 32)) 1):V)=(V.fz true 6 (ae .i64 (fun (ii jj:Nat)=>(BL.biF (Int.tmod b 32) ii jj))) (BL.biN (Int.tmod b 32)) 1))))))
theorem ab2 (r:Int) (E:Nat→Nat→Int) (b:Int) (h:0≤b∧b≤255) (q:0≤Int.tmod b 64∧Int.tmod b 64≤63) (q2:0≤Int.tmod b 6∧Int.tmod b 6≤63) (z:biN (Int.tmod b 64)=0):VC (aN Tryz.prog XSo 900 16 (enc [.st [.sl 1 A B,.sl 1 I J,.rr 1 n M f,.i .i64 r,.sl 5 6 E],.one (.i .u8 b)] 0) 4 (fun v H=>bY 4 H v 1 1 (fun _ _=>Int.tmod b 6))) (.go 1361 .nil):=ak (((small b)=true∧((cond true (cond (az 0 (Int.tmod b 64)) (az (Int.tmod b 64) 63) false) false)=true∧((cu (((BL.biN (Int.tmod b 64)):Nat):Int) 0)=true∧((small b)=true∧((((1):Int)=1)∧(((((Int.tmod b 6):Int)=(Int.tmod b 6))∧True)∧True)))))))
theorem ab1 (r:Int) (E:Nat→Nat→Int) (b:Int) (h:0≤b∧b≤255) (q:0≤Int.tmod b 64∧Int.tmod b 64≤63) (z:¬ biN (Int.tmod b 64)=0) (z2:biN (Int.tmod b 64)≤6):VC (aN Tryz.prog XSo 900 16 (enc [.st [.sl 1 A B,.sl 1 I J,.rr 1 n M f,.i .i64 r,.sl 5 6 E],.one (.i .u8 b)] 0) 4 (fun v H=>bY 4 H v (biN (Int.tmod b 64)) 1 (biF (Int.tmod b 64)))) (.go 401 .nil):=ak (((small b)=true∧((cond true (cond (az 0 (Int.tmod b 64)) (az (Int.tmod b 64) 63) false) false)=true∧((cu (((BL.biN (Int.tmod b 64)):Nat):Int) 0)=false∧(((V.fz true 6 (ae .i64 (fun (ii jj:Nat)=>(BL.biF (Int.tmod b 64) ii jj))) (BL.biN (Int.tmod b 64)) 1):V)=(V.fz true 6 (ae .i64 (fun (ii jj:Nat)=>(BL.biF (Int.tmod b 64) ii jj))) (BL.biN (Int.tmod b 64)) 1))))))
def Q9:Val:=fun das=>match das with | [.st [.sl 1 A B,.sl 1 I J,.rr 1 n M f,.i .i64 r,.sl 5 O E],.one (.i .u8 b)]=>some (cond (Nat.ble 1 O) (cond (Nat.ble O 6) (cond (az 0 b) (az b 255) false) false) false,.fz true 0 (ae .i64 (soF O b)) (soN O b) 1) | _=>none
theorem F9 {O:Nat} {b:Int} (z:biN (uB O b)=0):soN O b=1∧soF O b=fun _ _=>Int.tmod b (Int.ofNat O):=by
 constructor
 ·unfold soN;rw [z];rfl
 ·funext i j;unfold soF;rw [z];rfl
theorem FV {O:Nat} {b:Int} (z:¬ biN (uB O b)=0):soN O b=biN (uB O b)∧soF O b=biF (uB O b):=by
 have e:Nat.beq (biN (uB O b)) 0=false:=(fJ _ _).mpr z
 constructor
 ·unfold soN;rw [e];rfl
 ·funext i j;unfold soF;rw [e];rfl
theorem qp (n i:Nat) (l:List Int):RD (yC n i l)≤RD l+1:=by
 unfold yC
 cases Nat.beq (Nat.mod (Nat.div n (Nat.pow 2 i)) 2) 1 with
 | true=>exact Nat.le_refl _
 | false=>exact Nat.le_succ _
theorem qU (b:Int):biN b≤6:=by
 unfold biN biL
 have h0:RD []=0:=rfl
 have h5:=qp (Int.toNat b) 5 []
 have h4:=qp (Int.toNat b) 4 (yC (Int.toNat b) 5 [])
 have h3:=qp (Int.toNat b) 3 (yC (Int.toNat b) 4 (yC (Int.toNat b) 5 []))
 have h2:=qp (Int.toNat b) 2 (yC (Int.toNat b) 3 (yC (Int.toNat b) 4 (yC (Int.toNat b) 5 [])))
 have h1:=qp (Int.toNat b) 1 (yC (Int.toNat b) 2 (yC (Int.toNat b) 3 (yC (Int.toNat b) 4 (yC (Int.toNat b) 5 []))))
 have h:=qp (Int.toNat b) 0 (yC (Int.toNat b) 1 (yC (Int.toNat b) 2 (yC (Int.toNat b) 3 (yC (Int.toNat b) 4 (yC (Int.toNat b) 5 [])))))
 omega
theorem jq {b p:Int} (h:0≤b) (hp:0<p):0≤Int.tmod b p∧Int.tmod b p<p:=by
 rw [Int.tmod_eq_emod_of_nonneg h]
 exact ⟨Int.emod_nonneg _ (by omega),Int.emod_lt_of_pos _ hp⟩
theorem YW:Xh Tryz.prog 16 Q9:=by
 intro das v hv
 unfold Q9 at hv
 split at hv
 ·rename_i A B I J n M f r O E b
  have hb:=congrArg Prod.fst (Option.some.inj hv)
  have hv:=congrArg Prod.snd (Option.some.inj hv)
  subst hv
  obtain ⟨h1,hb⟩:=ah hb
  obtain ⟨h2,hb⟩:=ah hb
  obtain ⟨h3,h4⟩:=ah hb
  have h1:=Nat.le_of_ble_eq_true h1
  have h2:=Nat.le_of_ble_eq_true h2
  rw [aV] at h3 h4
  have hn:O=1∨O=2∨O=3∨O=4∨O=5∨O=6:=by omega
  rcases hn with rfl | rfl | rfl | rfl | rfl | rfl
  ·have q:=jq (p:=2) h3 (by decide)
   have q2:=jq (p:=1) h3 (by decide)
   by_cases z:biN (uB 1 b)=0
   ·obtain ⟨e1,e2⟩:=F9 z
    rw [e1,e2]
    obtain ⟨v',H',g1,g2⟩:=aW ax jZ (aa4 A B I J n M f r E b ⟨h3,h4⟩ (by omega) (by omega) z)
    exact ⟨v',H',g1,fun new => .one (.one (gV g2 new))⟩
   ·obtain ⟨e1,e2⟩:=FV z
    rw [e1,e2]
    obtain ⟨v',H',g1,g2⟩:=aW ax jZ (aat A B I J n M f r E b ⟨h3,h4⟩ (by omega) z (qU _))
    exact ⟨v',H',g1,fun new => .one (.one (gV g2 new))⟩
  ·have q:=jq (p:=4) h3 (by decide)
   have q2:=jq (p:=2) h3 (by decide)
   by_cases z:biN (uB 2 b)=0
   ·obtain ⟨e1,e2⟩:=F9 z
    rw [e1,e2]
    obtain ⟨v',H',g1,g2⟩:=aW ax jZ (aax A B I J n M f r E b ⟨h3,h4⟩ (by omega) (by omega) z)
    exact ⟨v',H',g1,fun new => .one (.one (gV g2 new))⟩
   ·obtain ⟨e1,e2⟩:=FV z
    rw [e1,e2]
    obtain ⟨v',H',g1,g2⟩:=aW ax jZ (abU A B I J n M f r E b ⟨h3,h4⟩ (by omega) z (qU _))
    exact ⟨v',H',g1,fun new => .one (.one (gV g2 new))⟩
  ·have q:=jq (p:=8) h3 (by decide)
   have q2:=jq (p:=3) h3 (by decide)
   by_cases z:biN (uB 3 b)=0
   ·obtain ⟨e1,e2⟩:=F9 z
    rw [e1,e2]
    obtain ⟨v',H',g1,g2⟩:=aW ax jZ (abb A B I J n M f r E b ⟨h3,h4⟩ (by omega) (by omega) z)
    exact ⟨v',H',g1,fun new => .one (.one (gV g2 new))⟩
   ·obtain ⟨e1,e2⟩:=FV z
    rw [e1,e2]
    obtain ⟨v',H',g1,g2⟩:=aW ax jZ (abQ A B I J n M f r E b ⟨h3,h4⟩ (by omega) z (qU _))
    exact ⟨v',H',g1,fun new => .one (.one (gV g2 new))⟩
  ·have q:=jq (p:=16) h3 (by decide)
   have q2:=jq (p:=4) h3 (by decide)
   by_cases z:biN (uB 4 b)=0
   ·obtain ⟨e1,e2⟩:=F9 z
    rw [e1,e2]
    obtain ⟨v',H',g1,g2⟩:=aW ax jZ (abh A B I J n M f r E b ⟨h3,h4⟩ (by omega) (by omega) z)
    exact ⟨v',H',g1,fun new => .one (.one (gV g2 new))⟩
   ·obtain ⟨e1,e2⟩:=FV z
    rw [e1,e2]
    obtain ⟨v',H',g1,g2⟩:=aW ax jZ (aaI A B I J n M f r E b ⟨h3,h4⟩ (by omega) z (qU _))
    exact ⟨v',H',g1,fun new => .one (.one (gV g2 new))⟩
  ·have q:=jq (p:=32) h3 (by decide)
   have q2:=jq (p:=5) h3 (by decide)
   by_cases z:biN (uB 5 b)=0
   ·obtain ⟨e1,e2⟩:=F9 z
    rw [e1,e2]
    obtain ⟨v',H',g1,g2⟩:=aW ax jZ (ab4 A B I J n M f r E b ⟨h3,h4⟩ (by omega) (by omega) z)
    exact ⟨v',H',g1,fun new => .one (.one (gV g2 new))⟩
   ·obtain ⟨e1,e2⟩:=FV z
    rw [e1,e2]
    obtain ⟨v',H',g1,g2⟩:=aW ax jZ (aa3 A B I J n M f r E b ⟨h3,h4⟩ (by omega) z (qU _))
    exact ⟨v',H',g1,fun new => .one (.one (gV g2 new))⟩
  ·have q:=jq (p:=64) h3 (by decide)
   have q2:=jq (p:=6) h3 (by decide)
   by_cases z:biN (uB 6 b)=0
   ·obtain ⟨e1,e2⟩:=F9 z
    rw [e1,e2]
    obtain ⟨v',H',g1,g2⟩:=aW ax jZ (ab2 A B I J n M f r E b ⟨h3,h4⟩ (by omega) (by omega) z)
    exact ⟨v',H',g1,fun new => .one (.one (gV g2 new))⟩
   ·obtain ⟨e1,e2⟩:=FV z
    rw [e1,e2]
    obtain ⟨v',H',g1,g2⟩:=aW ax jZ (ab1 A B I J n M f r E b ⟨h3,h4⟩ (by omega) z (qU _))
    exact ⟨v',H',g1,fun new => .one (.one (gV g2 new))⟩
 ·cases hv
end
end BL
end Go.Proofs.YtiplgejpopellaaGreat
