/- Casks: lists by bits, and the reference's strength of a blend, as contracts. -/
import Derived.Test.YtpfcfonplmhmiaaGreatYPrS4
import Derived.Test.YtpfcfonplmhmiaaGreatYPrL3
import Derived.Test.YtpfcfonplmhmiaaGreatYEe
set_option linter.all false
set_option linter.unusedSimpArgs false
set_option linter.unusedVariables false
namespace Go.Proofs.YtpfcfonplmhmiaaGreat
namespace BL
open Go Go.Ev
set_option maxRecDepth 1000000
set_option maxHeartbeats 0
noncomputable section
variable (A:Nat) (B:Nat→Nat→Int) (I:Nat) (J:Nat→Nat→Int) (n:Nat) (M:Nat→Nat) (f:Nat→Nat→Nat→Int)
theorem gJ {k:Nat} {H:EH} {v:V} {len e:Nat} {f:Nat→Nat→Int} (h:bY k H v len e f) (new:Nat):Fn0 H k new v (.fz true new (ae .i64 f) len e):=by
 unfold bY at h
 split at h
 ·have h:(0:Nat)=len:=by injection h
  subst h
  exact .nilS
 ·obtain ⟨h1,h2⟩:=dJ h
  obtain ⟨_,rfl,rfl,rfl⟩:=Ee h2
  exact .fz (dD h1) (fun _ _ _ _=>rfl) (fun _ _ _ _ => .int _ _) (fun _ _ _ _ => .int _ _)
 ·rename_i b off l e'
  obtain ⟨h1,h2⟩:=h
  have h1:l=len:=by injection h1
  subst h1
  split at h2
  ·rename_i c lo sz g hb
   obtain ⟨q1,h3⟩:=dJ h2
   clear h2
   obtain ⟨q2,h4⟩:=dJ h3
   clear h3
   obtain ⟨q3,h5⟩:=dJ h4
   clear h4
   have:=nb q1
   subst this
   have q2:=Nat.le_of_ble_eq_true q2
   have q3:off+l*e'≤sz:=Nat.le_of_ble_eq_true q3
   refine .slice (d:=ae .i64 f) hb q2 q3 (fun i j hi hj=>?_) (fun _ _ _ _=>rfl) (fun _ _ _ _ => .int _ _) (fun _ _ _ _ => .int _ _)
   have:=zB h5 i j hi hj
   rw [Nat.zero_add] at this
   exact this
  ·exact h2.elim
 ·exact h.elim
def yI (n i:Nat) (l:List Int):List Int:=cond (Nat.beq (Nat.mod (Nat.div n (Nat.pow 2 i)) 2) 1) (Int.ofNat i::l) l
def biL (n:Nat):List Int:=yI n 0 (yI n 1 (yI n 2 (yI n 3 (yI n 4 (yI n 5 [])))))
def Ws (l:List Int):Nat:=List.rec (motive:=fun _=>Nat) 0 (fun _ _ ih=>Nat.succ ih) l
def biF (n:Int) (i _j:Nat):Int:=XU (biL (Int.toNat n)) i
def biN (n:Int):Nat:=Ws (biL (Int.toNat n))
theorem bi0  : VC (aC Tryz.prog az 900 40 (enc [.one (.i .i64 0)] 0) 0 (fun v H=>bY 0 H v 0 1 (biF 0))) .nil:=ai ((((0):Int)=(0)))
theorem bi1  : VC (aC Tryz.prog az 900 40 (enc [.one (.i .i64 1)] 0) 0 (fun v H=>bY 0 H v 1 1 (biF 1))) .nil:=ai (((((1):Int)=(1))∧(((((0):Int)=(0))∧True)∧True)))
theorem bi2  : VC (aC Tryz.prog az 900 40 (enc [.one (.i .i64 2)] 0) 0 (fun v H=>bY 0 H v 1 1 (biF 2))) .nil:=ai (((((1):Int)=(1))∧(((((1):Int)=(1))∧True)∧True)))
theorem bi3  : VC (aC Tryz.prog az 900 40 (enc [.one (.i .i64 3)] 0) 0 (fun v H=>bY 0 H v 2 1 (biF 3))) .nil:=ai (((((2):Int)=(2))∧(((((0):Int)=(0))∧True)∧(((((1):Int)=(1))∧True)∧True))))
theorem bi4  : VC (aC Tryz.prog az 900 40 (enc [.one (.i .i64 4)] 0) 0 (fun v H=>bY 0 H v 1 1 (biF 4))) .nil:=ai (((((1):Int)=(1))∧(((((2):Int)=(2))∧True)∧True)))
theorem bi5  : VC (aC Tryz.prog az 900 40 (enc [.one (.i .i64 5)] 0) 0 (fun v H=>bY 0 H v 2 1 (biF 5))) .nil:=ai (((((2):Int)=(2))∧(((((0):Int)=(0))∧True)∧(((((2):Int)=(2))∧True)∧True))))
theorem bi6  : VC (aC Tryz.prog az 900 40 (enc [.one (.i .i64 6)] 0) 0 (fun v H=>bY 0 H v 2 1 (biF 6))) .nil:=ai (((((2):Int)=(2))∧(((((1):Int)=(1))∧True)∧(((((2):Int)=(2))∧True)∧True))))
theorem bi7  : VC (aC Tryz.prog az 900 40 (enc [.one (.i .i64 7)] 0) 0 (fun v H=>bY 0 H v 3 1 (biF 7))) .nil:=ai (((((3):Int)=(3))∧(((((0):Int)=(0))∧True)∧(((((1):Int)=(1))∧True)∧(((((2):Int)=(2))∧True)∧True)))))
theorem bi8  : VC (aC Tryz.prog az 900 40 (enc [.one (.i .i64 8)] 0) 0 (fun v H=>bY 0 H v 1 1 (biF 8))) .nil:=ai (((((1):Int)=(1))∧(((((3):Int)=(3))∧True)∧True)))
theorem bi9  : VC (aC Tryz.prog az 900 40 (enc [.one (.i .i64 9)] 0) 0 (fun v H=>bY 0 H v 2 1 (biF 9))) .nil:=ai (((((2):Int)=(2))∧(((((0):Int)=(0))∧True)∧(((((3):Int)=(3))∧True)∧True))))
theorem abr  : VC (aC Tryz.prog az 900 40 (enc [.one (.i .i64 10)] 0) 0 (fun v H=>bY 0 H v 2 1 (biF 10))) .nil:=ai (((((2):Int)=(2))∧(((((1):Int)=(1))∧True)∧(((((3):Int)=(3))∧True)∧True))))
theorem ab6  : VC (aC Tryz.prog az 900 40 (enc [.one (.i .i64 11)] 0) 0 (fun v H=>bY 0 H v 3 1 (biF 11))) .nil:=ai (((((3):Int)=(3))∧(((((0):Int)=(0))∧True)∧(((((1):Int)=(1))∧True)∧(((((3):Int)=(3))∧True)∧True)))))
theorem aaU  : VC (aC Tryz.prog az 900 40 (enc [.one (.i .i64 12)] 0) 0 (fun v H=>bY 0 H v 2 1 (biF 12))) .nil:=ai (((((2):Int)=(2))∧(((((2):Int)=(2))∧True)∧(((((3):Int)=(3))∧True)∧True))))
theorem abH  : VC (aC Tryz.prog az 900 40 (enc [.one (.i .i64 13)] 0) 0 (fun v H=>bY 0 H v 3 1 (biF 13))) .nil:=ai (((((3):Int)=(3))∧(((((0):Int)=(0))∧True)∧(((((2):Int)=(2))∧True)∧(((((3):Int)=(3))∧True)∧True)))))
theorem acz  : VC (aC Tryz.prog az 900 40 (enc [.one (.i .i64 14)] 0) 0 (fun v H=>bY 0 H v 3 1 (biF 14))) .nil:=ai (((((3):Int)=(3))∧(((((1):Int)=(1))∧True)∧(((((2):Int)=(2))∧True)∧(((((3):Int)=(3))∧True)∧True)))))
theorem abL  : VC (aC Tryz.prog az 900 40 (enc [.one (.i .i64 15)] 0) 0 (fun v H=>bY 0 H v 4 1 (biF 15))) .nil:=ai (((((4):Int)=(4))∧(((((0):Int)=(0))∧True)∧(((((1):Int)=(1))∧True)∧(((((2):Int)=(2))∧True)∧(((((3):Int)=(3))∧True)∧True))))))
theorem aaW  : VC (aC Tryz.prog az 900 40 (enc [.one (.i .i64 16)] 0) 0 (fun v H=>bY 0 H v 1 1 (biF 16))) .nil:=ai (((((1):Int)=(1))∧(((((4):Int)=(4))∧True)∧True)))
theorem ab4  : VC (aC Tryz.prog az 900 40 (enc [.one (.i .i64 17)] 0) 0 (fun v H=>bY 0 H v 2 1 (biF 17))) .nil:=ai (((((2):Int)=(2))∧(((((0):Int)=(0))∧True)∧(((((4):Int)=(4))∧True)∧True))))
theorem abU  : VC (aC Tryz.prog az 900 40 (enc [.one (.i .i64 18)] 0) 0 (fun v H=>bY 0 H v 2 1 (biF 18))) .nil:=ai (((((2):Int)=(2))∧(((((1):Int)=(1))∧True)∧(((((4):Int)=(4))∧True)∧True))))
theorem abT  : VC (aC Tryz.prog az 900 40 (enc [.one (.i .i64 19)] 0) 0 (fun v H=>bY 0 H v 3 1 (biF 19))) .nil:=ai (((((3):Int)=(3))∧(((((0):Int)=(0))∧True)∧(((((1):Int)=(1))∧True)∧(((((4):Int)=(4))∧True)∧True)))))
theorem abA  : VC (aC Tryz.prog az 900 40 (enc [.one (.i .i64 20)] 0) 0 (fun v H=>bY 0 H v 2 1 (biF 20))) .nil:=ai (((((2):Int)=(2))∧(((((2):Int)=(2))∧True)∧(((((4):Int)=(4))∧True)∧True))))
theorem abG  : VC (aC Tryz.prog az 900 40 (enc [.one (.i .i64 21)] 0) 0 (fun v H=>bY 0 H v 3 1 (biF 21))) .nil:=ai (((((3):Int)=(3))∧(((((0):Int)=(0))∧True)∧(((((2):Int)=(2))∧True)∧(((((4):Int)=(4))∧True)∧True)))))
theorem abV  : VC (aC Tryz.prog az 900 40 (enc [.one (.i .i64 22)] 0) 0 (fun v H=>bY 0 H v 3 1 (biF 22))) .nil:=ai (((((3):Int)=(3))∧(((((1):Int)=(1))∧True)∧(((((2):Int)=(2))∧True)∧(((((4):Int)=(4))∧True)∧True)))))
theorem aca  : VC (aC Tryz.prog az 900 40 (enc [.one (.i .i64 23)] 0) 0 (fun v H=>bY 0 H v 4 1 (biF 23))) .nil:=ai (((((4):Int)=(4))∧(((((0):Int)=(0))∧True)∧(((((1):Int)=(1))∧True)∧(((((2):Int)=(2))∧True)∧(((((4):Int)=(4))∧True)∧True))))))
theorem abO  : VC (aC Tryz.prog az 900 40 (enc [.one (.i .i64 24)] 0) 0 (fun v H=>bY 0 H v 2 1 (biF 24))) .nil:=ai (((((2):Int)=(2))∧(((((3):Int)=(3))∧True)∧(((((4):Int)=(4))∧True)∧True))))
theorem abC  : VC (aC Tryz.prog az 900 40 (enc [.one (.i .i64 25)] 0) 0 (fun v H=>bY 0 H v 3 1 (biF 25))) .nil:=ai (((((3):Int)=(3))∧(((((0):Int)=(0))∧True)∧(((((3):Int)=(3))∧True)∧(((((4):Int)=(4))∧True)∧True)))))
theorem acw  : VC (aC Tryz.prog az 900 40 (enc [.one (.i .i64 26)] 0) 0 (fun v H=>bY 0 H v 3 1 (biF 26))) .nil:=ai (((((3):Int)=(3))∧(((((1):Int)=(1))∧True)∧(((((3):Int)=(3))∧True)∧(((((4):Int)=(4))∧True)∧True)))))
theorem abW  : VC (aC Tryz.prog az 900 40 (enc [.one (.i .i64 27)] 0) 0 (fun v H=>bY 0 H v 4 1 (biF 27))) .nil:=ai (((((4):Int)=(4))∧(((((0):Int)=(0))∧True)∧(((((1):Int)=(1))∧True)∧(((((3):Int)=(3))∧True)∧(((((4):Int)=(4))∧True)∧True))))))
theorem abl  : VC (aC Tryz.prog az 900 40 (enc [.one (.i .i64 28)] 0) 0 (fun v H=>bY 0 H v 3 1 (biF 28))) .nil:=ai (((((3):Int)=(3))∧(((((2):Int)=(2))∧True)∧(((((3):Int)=(3))∧True)∧(((((4):Int)=(4))∧True)∧True)))))
theorem abw  : VC (aC Tryz.prog az 900 40 (enc [.one (.i .i64 29)] 0) 0 (fun v H=>bY 0 H v 4 1 (biF 29))) .nil:=ai (((((4):Int)=(4))∧(((((0):Int)=(0))∧True)∧(((((2):Int)=(2))∧True)∧(((((3):Int)=(3))∧True)∧(((((4):Int)=(4))∧True)∧True))))))
theorem abn  : VC (aC Tryz.prog az 900 40 (enc [.one (.i .i64 30)] 0) 0 (fun v H=>bY 0 H v 4 1 (biF 30))) .nil:=ai (((((4):Int)=(4))∧(((((1):Int)=(1))∧True)∧(((((2):Int)=(2))∧True)∧(((((3):Int)=(3))∧True)∧(((((4):Int)=(4))∧True)∧True))))))
theorem ab8  : VC (aC Tryz.prog az 900 40 (enc [.one (.i .i64 31)] 0) 0 (fun v H=>bY 0 H v 5 1 (biF 31))) .nil:=ai (((((5):Int)=(5))∧(((((0):Int)=(0))∧True)∧(((((1):Int)=(1))∧True)∧(((((2):Int)=(2))∧True)∧(((((3):Int)=(3))∧True)∧(((((4):Int)=(4))∧True)∧True)))))))
theorem abo  : VC (aC Tryz.prog az 900 40 (enc [.one (.i .i64 32)] 0) 0 (fun v H=>bY 0 H v 1 1 (biF 32))) .nil:=ai (((((1):Int)=(1))∧(((((5):Int)=(5))∧True)∧True)))
theorem abx  : VC (aC Tryz.prog az 900 40 (enc [.one (.i .i64 33)] 0) 0 (fun v H=>bY 0 H v 2 1 (biF 33))) .nil:=ai (((((2):Int)=(2))∧(((((0):Int)=(0))∧True)∧(((((5):Int)=(5))∧True)∧True))))
theorem aa5  : VC (aC Tryz.prog az 900 40 (enc [.one (.i .i64 34)] 0) 0 (fun v H=>bY 0 H v 2 1 (biF 34))) .nil:=ai (((((2):Int)=(2))∧(((((1):Int)=(1))∧True)∧(((((5):Int)=(5))∧True)∧True))))
theorem aaZ  : VC (aC Tryz.prog az 900 40 (enc [.one (.i .i64 35)] 0) 0 (fun v H=>bY 0 H v 3 1 (biF 35))) .nil:=ai (((((3):Int)=(3))∧(((((0):Int)=(0))∧True)∧(((((1):Int)=(1))∧True)∧(((((5):Int)=(5))∧True)∧True)))))
theorem acb  : VC (aC Tryz.prog az 900 40 (enc [.one (.i .i64 36)] 0) 0 (fun v H=>bY 0 H v 2 1 (biF 36))) .nil:=ai (((((2):Int)=(2))∧(((((2):Int)=(2))∧True)∧(((((5):Int)=(5))∧True)∧True))))
theorem aci  : VC (aC Tryz.prog az 900 40 (enc [.one (.i .i64 37)] 0) 0 (fun v H=>bY 0 H v 3 1 (biF 37))) .nil:=ai (((((3):Int)=(3))∧(((((0):Int)=(0))∧True)∧(((((2):Int)=(2))∧True)∧(((((5):Int)=(5))∧True)∧True)))))
theorem ace  : VC (aC Tryz.prog az 900 40 (enc [.one (.i .i64 38)] 0) 0 (fun v H=>bY 0 H v 3 1 (biF 38))) .nil:=ai (((((3):Int)=(3))∧(((((1):Int)=(1))∧True)∧(((((2):Int)=(2))∧True)∧(((((5):Int)=(5))∧True)∧True)))))
theorem abd  : VC (aC Tryz.prog az 900 40 (enc [.one (.i .i64 39)] 0) 0 (fun v H=>bY 0 H v 4 1 (biF 39))) .nil:=ai (((((4):Int)=(4))∧(((((0):Int)=(0))∧True)∧(((((1):Int)=(1))∧True)∧(((((2):Int)=(2))∧True)∧(((((5):Int)=(5))∧True)∧True))))))
theorem abb  : VC (aC Tryz.prog az 900 40 (enc [.one (.i .i64 40)] 0) 0 (fun v H=>bY 0 H v 2 1 (biF 40))) .nil:=ai (((((2):Int)=(2))∧(((((3):Int)=(3))∧True)∧(((((5):Int)=(5))∧True)∧True))))
theorem acn  : VC (aC Tryz.prog az 900 40 (enc [.one (.i .i64 41)] 0) 0 (fun v H=>bY 0 H v 3 1 (biF 41))) .nil:=ai (((((3):Int)=(3))∧(((((0):Int)=(0))∧True)∧(((((3):Int)=(3))∧True)∧(((((5):Int)=(5))∧True)∧True)))))
theorem abv  : VC (aC Tryz.prog az 900 40 (enc [.one (.i .i64 42)] 0) 0 (fun v H=>bY 0 H v 3 1 (biF 42))) .nil:=ai (((((3):Int)=(3))∧(((((1):Int)=(1))∧True)∧(((((3):Int)=(3))∧True)∧(((((5):Int)=(5))∧True)∧True)))))
theorem aa4  : VC (aC Tryz.prog az 900 40 (enc [.one (.i .i64 43)] 0) 0 (fun v H=>bY 0 H v 4 1 (biF 43))) .nil:=ai (((((4):Int)=(4))∧(((((0):Int)=(0))∧True)∧(((((1):Int)=(1))∧True)∧(((((3):Int)=(3))∧True)∧(((((5):Int)=(5))∧True)∧True))))))
theorem abf  : VC (aC Tryz.prog az 900 40 (enc [.one (.i .i64 44)] 0) 0 (fun v H=>bY 0 H v 3 1 (biF 44))) .nil:=ai (((((3):Int)=(3))∧(((((2):Int)=(2))∧True)∧(((((3):Int)=(3))∧True)∧(((((5):Int)=(5))∧True)∧True)))))
theorem acj  : VC (aC Tryz.prog az 900 40 (enc [.one (.i .i64 45)] 0) 0 (fun v H=>bY 0 H v 4 1 (biF 45))) .nil:=ai (((((4):Int)=(4))∧(((((0):Int)=(0))∧True)∧(((((2):Int)=(2))∧True)∧(((((3):Int)=(3))∧True)∧(((((5):Int)=(5))∧True)∧True))))))
theorem acp  : VC (aC Tryz.prog az 900 40 (enc [.one (.i .i64 46)] 0) 0 (fun v H=>bY 0 H v 4 1 (biF 46))) .nil:=ai (((((4):Int)=(4))∧(((((1):Int)=(1))∧True)∧(((((2):Int)=(2))∧True)∧(((((3):Int)=(3))∧True)∧(((((5):Int)=(5))∧True)∧True))))))
theorem abY  : VC (aC Tryz.prog az 900 40 (enc [.one (.i .i64 47)] 0) 0 (fun v H=>bY 0 H v 5 1 (biF 47))) .nil:=ai (((((5):Int)=(5))∧(((((0):Int)=(0))∧True)∧(((((1):Int)=(1))∧True)∧(((((2):Int)=(2))∧True)∧(((((3):Int)=(3))∧True)∧(((((5):Int)=(5))∧True)∧True)))))))
theorem abt  : VC (aC Tryz.prog az 900 40 (enc [.one (.i .i64 48)] 0) 0 (fun v H=>bY 0 H v 2 1 (biF 48))) .nil:=ai (((((2):Int)=(2))∧(((((4):Int)=(4))∧True)∧(((((5):Int)=(5))∧True)∧True))))
theorem abg  : VC (aC Tryz.prog az 900 40 (enc [.one (.i .i64 49)] 0) 0 (fun v H=>bY 0 H v 3 1 (biF 49))) .nil:=ai (((((3):Int)=(3))∧(((((0):Int)=(0))∧True)∧(((((4):Int)=(4))∧True)∧(((((5):Int)=(5))∧True)∧True)))))
theorem acC  : VC (aC Tryz.prog az 900 40 (enc [.one (.i .i64 50)] 0) 0 (fun v H=>bY 0 H v 3 1 (biF 50))) .nil:=ai (((((3):Int)=(3))∧(((((1):Int)=(1))∧True)∧(((((4):Int)=(4))∧True)∧(((((5):Int)=(5))∧True)∧True)))))
theorem aby  : VC (aC Tryz.prog az 900 40 (enc [.one (.i .i64 51)] 0) 0 (fun v H=>bY 0 H v 4 1 (biF 51))) .nil:=ai (((((4):Int)=(4))∧(((((0):Int)=(0))∧True)∧(((((1):Int)=(1))∧True)∧(((((4):Int)=(4))∧True)∧(((((5):Int)=(5))∧True)∧True))))))
theorem ab2  : VC (aC Tryz.prog az 900 40 (enc [.one (.i .i64 52)] 0) 0 (fun v H=>bY 0 H v 3 1 (biF 52))) .nil:=ai (((((3):Int)=(3))∧(((((2):Int)=(2))∧True)∧(((((4):Int)=(4))∧True)∧(((((5):Int)=(5))∧True)∧True)))))
theorem abJ  : VC (aC Tryz.prog az 900 40 (enc [.one (.i .i64 53)] 0) 0 (fun v H=>bY 0 H v 4 1 (biF 53))) .nil:=ai (((((4):Int)=(4))∧(((((0):Int)=(0))∧True)∧(((((2):Int)=(2))∧True)∧(((((4):Int)=(4))∧True)∧(((((5):Int)=(5))∧True)∧True))))))
theorem abS  : VC (aC Tryz.prog az 900 40 (enc [.one (.i .i64 54)] 0) 0 (fun v H=>bY 0 H v 4 1 (biF 54))) .nil:=ai (((((4):Int)=(4))∧(((((1):Int)=(1))∧True)∧(((((2):Int)=(2))∧True)∧(((((4):Int)=(4))∧True)∧(((((5):Int)=(5))∧True)∧True))))))
theorem abB  : VC (aC Tryz.prog az 900 40 (enc [.one (.i .i64 55)] 0) 0 (fun v H=>bY 0 H v 5 1 (biF 55))) .nil:=ai (((((5):Int)=(5))∧(((((0):Int)=(0))∧True)∧(((((1):Int)=(1))∧True)∧(((((2):Int)=(2))∧True)∧(((((4):Int)=(4))∧True)∧(((((5):Int)=(5))∧True)∧True)))))))
theorem aa0  : VC (aC Tryz.prog az 900 40 (enc [.one (.i .i64 56)] 0) 0 (fun v H=>bY 0 H v 3 1 (biF 56))) .nil:=ai (((((3):Int)=(3))∧(((((3):Int)=(3))∧True)∧(((((4):Int)=(4))∧True)∧(((((5):Int)=(5))∧True)∧True)))))
theorem acv  : VC (aC Tryz.prog az 900 40 (enc [.one (.i .i64 57)] 0) 0 (fun v H=>bY 0 H v 4 1 (biF 57))) .nil:=ai (((((4):Int)=(4))∧(((((0):Int)=(0))∧True)∧(((((3):Int)=(3))∧True)∧(((((4):Int)=(4))∧True)∧(((((5):Int)=(5))∧True)∧True))))))
theorem abM  : VC (aC Tryz.prog az 900 40 (enc [.one (.i .i64 58)] 0) 0 (fun v H=>bY 0 H v 4 1 (biF 58))) .nil:=ai (((((4):Int)=(4))∧(((((1):Int)=(1))∧True)∧(((((3):Int)=(3))∧True)∧(((((4):Int)=(4))∧True)∧(((((5):Int)=(5))∧True)∧True))))))
theorem acu  : VC (aC Tryz.prog az 900 40 (enc [.one (.i .i64 59)] 0) 0 (fun v H=>bY 0 H v 5 1 (biF 59))) .nil:=ai (((((5):Int)=(5))∧(((((0):Int)=(0))∧True)∧(((((1):Int)=(1))∧True)∧(((((3):Int)=(3))∧True)∧(((((4):Int)=(4))∧True)∧(((((5):Int)=(5))∧True)∧True)))))))
theorem abE  : VC (aC Tryz.prog az 900 40 (enc [.one (.i .i64 60)] 0) 0 (fun v H=>bY 0 H v 4 1 (biF 60))) .nil:=ai (((((4):Int)=(4))∧(((((2):Int)=(2))∧True)∧(((((3):Int)=(3))∧True)∧(((((4):Int)=(4))∧True)∧(((((5):Int)=(5))∧True)∧True))))))
theorem aa8  : VC (aC Tryz.prog az 900 40 (enc [.one (.i .i64 61)] 0) 0 (fun v H=>bY 0 H v 5 1 (biF 61))) .nil:=ai (((((5):Int)=(5))∧(((((0):Int)=(0))∧True)∧(((((2):Int)=(2))∧True)∧(((((3):Int)=(3))∧True)∧(((((4):Int)=(4))∧True)∧(((((5):Int)=(5))∧True)∧True)))))))
theorem abu  : VC (aC Tryz.prog az 900 40 (enc [.one (.i .i64 62)] 0) 0 (fun v H=>bY 0 H v 5 1 (biF 62))) .nil:=ai (((((5):Int)=(5))∧(((((1):Int)=(1))∧True)∧(((((2):Int)=(2))∧True)∧(((((3):Int)=(3))∧True)∧(((((4):Int)=(4))∧True)∧(((((5):Int)=(5))∧True)∧True)))))))
theorem abR  : VC (aC Tryz.prog az 900 40 (enc [.one (.i .i64 63)] 0) 0 (fun v H=>bY 0 H v 6 1 (biF 63))) .nil:=ai (((((6):Int)=(6))∧(((((0):Int)=(0))∧True)∧(((((1):Int)=(1))∧True)∧(((((2):Int)=(2))∧True)∧(((((3):Int)=(3))∧True)∧(((((4):Int)=(4))∧True)∧(((((5):Int)=(5))∧True)∧True))))))))
def UI:Val:=fun das=>match das with | [.one (.i .i64 b)]=>some (cond (ak 0 b) (ak b 63) false,.fz true 0 (ae .i64 (biF b)) (biN b) 1) | _=>none
theorem Y8:Yq Tryz.prog 40 UI:=by
 intro das v hv
 unfold UI at hv
 split at hv
 ·rename_i b
  have hb:=congrArg Prod.fst (Option.some.inj hv)
  have hv:=congrArg Prod.snd (Option.some.inj hv)
  subst hv
  obtain ⟨h1,h2⟩:=ah hb
  rw [aY] at h1 h2
  have fin:∀ {c:Int} {m:Nat} {h:HT},biN c=m→VC (aC Tryz.prog az 900 40 (enc [.one (.i .i64 c)] 0) 0 (fun v H=>bY 0 H v m 1 (biF c))) h→∃ v' H',SpecCall Tryz.prog 40 (enc [.one (.i .i64 c)] 0) (aW 1) v' H'∧∀ new,FnV H' 0 new v' (Tn new (.fz true 0 (ae .i64 (biF c)) (biN c) 1)):=fun e hvc=>by
   subst e
   obtain ⟨v',H',h1,h2⟩:=aA aj aB hvc
   exact ⟨v',H',h1,fun new => .one (.one (gJ h2 new))⟩
  obtain ⟨k,rfl⟩:∃ k:Nat,b=Int.ofNat k:=⟨Int.toNat b,by have:(Int.toNat b:Int)=b:=Int.toNat_of_nonneg h1;exact this.symm⟩
  have hk:k<64:=by have h2:(k:Int)≤63:=h2;omega
  match k,hk with
  | 0,_=>exact fin rfl bi0
  | 1,_=>exact fin rfl bi1
  | 2,_=>exact fin rfl bi2
  | 3,_=>exact fin rfl bi3
  | 4,_=>exact fin rfl bi4
  | 5,_=>exact fin rfl bi5
  | 6,_=>exact fin rfl bi6
  | 7,_=>exact fin rfl bi7
  | 8,_=>exact fin rfl bi8
  | 9,_=>exact fin rfl bi9
  | 10,_=>exact fin rfl abr
  | 11,_=>exact fin rfl ab6
  | 12,_=>exact fin rfl aaU
  | 13,_=>exact fin rfl abH
  | 14,_=>exact fin rfl acz
  | 15,_=>exact fin rfl abL
  | 16,_=>exact fin rfl aaW
  | 17,_=>exact fin rfl ab4
  | 18,_=>exact fin rfl abU
  | 19,_=>exact fin rfl abT
  | 20,_=>exact fin rfl abA
  | 21,_=>exact fin rfl abG
  | 22,_=>exact fin rfl abV
  | 23,_=>exact fin rfl aca
  | 24,_=>exact fin rfl abO
  | 25,_=>exact fin rfl abC
  | 26,_=>exact fin rfl acw
  | 27,_=>exact fin rfl abW
  | 28,_=>exact fin rfl abl
  | 29,_=>exact fin rfl abw
  | 30,_=>exact fin rfl abn
  | 31,_=>exact fin rfl ab8
  | 32,_=>exact fin rfl abo
  | 33,_=>exact fin rfl abx
  | 34,_=>exact fin rfl aa5
  | 35,_=>exact fin rfl aaZ
  | 36,_=>exact fin rfl acb
  | 37,_=>exact fin rfl aci
  | 38,_=>exact fin rfl ace
  | 39,_=>exact fin rfl abd
  | 40,_=>exact fin rfl abb
  | 41,_=>exact fin rfl acn
  | 42,_=>exact fin rfl abv
  | 43,_=>exact fin rfl aa4
  | 44,_=>exact fin rfl abf
  | 45,_=>exact fin rfl acj
  | 46,_=>exact fin rfl acp
  | 47,_=>exact fin rfl abY
  | 48,_=>exact fin rfl abt
  | 49,_=>exact fin rfl abg
  | 50,_=>exact fin rfl acC
  | 51,_=>exact fin rfl aby
  | 52,_=>exact fin rfl ab2
  | 53,_=>exact fin rfl abJ
  | 54,_=>exact fin rfl abS
  | 55,_=>exact fin rfl abB
  | 56,_=>exact fin rfl aa0
  | 57,_=>exact fin rfl acv
  | 58,_=>exact fin rfl abM
  | 59,_=>exact fin rfl acu
  | 60,_=>exact fin rfl abE
  | 61,_=>exact fin rfl aa8
  | 62,_=>exact fin rfl abu
  | 63,_=>exact fin rfl abR
 ·cases hv
def yD (O:Nat) (b:Int):Int:=Int.tmod b (Int.ofNat (Nat.pow 2 O))
def soF (O:Nat) (b:Int) (i j:Nat):Int:=cond (Nat.beq (biN (yD O b)) 0) (Int.tmod b (Int.ofNat O)) (biF (yD O b) i j)
def soN (O:Nat) (b:Int):Nat:=cond (Nat.beq (biN (yD O b)) 0) 1 (biN (yD O b))
def XSo:Ext:=jy [(40,cfN UI)] false
theorem kF:dE Tryz.prog XSo:=dG (ay (NM Y8) bn)
theorem aaX (r:Int) (E:Nat→Nat→Int) (b:Int) (h:0≤b∧b≤255) (q:0≤Int.tmod b 2∧Int.tmod b 2≤63) (q2:0≤Int.tmod b 1∧Int.tmod b 1≤63) (z:biN (Int.tmod b 2)=0):VC (aC Tryz.prog XSo 900 12 (enc [.st [.sl 1 A B,.sl 1 I J,.rr 1 n M f,.i .i64 r,.sl 5 1 E],.one (.i .u8 b)] 0) 4 (fun v H=>bY 4 H v 1 1 (fun _ _=>Int.tmod b 1))) (.go 1361 .nil):=ai (((small b)=true∧((cond true (cond (ak 0 (Int.tmod b 2)) (ak (Int.tmod b 2) 63) false) false)=true∧((aP (((BL.biN (Int.tmod b 2)):Nat):Int) 0)=true∧((small b)=true∧((((1):Int)=1)∧(((((Int.tmod b 1):Int)=(Int.tmod b 1))∧True)∧True)))))))
theorem aco (r:Int) (E:Nat→Nat→Int) (b:Int) (h:0≤b∧b≤255) (q:0≤Int.tmod b 2∧Int.tmod b 2≤63) (z:¬ biN (Int.tmod b 2)=0) (z2:biN (Int.tmod b 2)≤6):VC (aC Tryz.prog XSo 900 12 (enc [.st [.sl 1 A B,.sl 1 I J,.rr 1 n M f,.i .i64 r,.sl 5 1 E],.one (.i .u8 b)] 0) 4 (fun v H=>bY 4 H v (biN (Int.tmod b 2)) 1 (biF (Int.tmod b 2)))) (.go 401 .nil):=ai (((small b)=true∧((cond true (cond (ak 0 (Int.tmod b 2)) (ak (Int.tmod b 2) 63) false) false)=true∧((aP (((BL.biN (Int.tmod b 2)):Nat):Int) 0)=false∧(((V.fz true 6 (ae .i64 (fun (ii jj:Nat)=>(BL.biF (Int.tmod b 2) ii jj))) (BL.biN (Int.tmod b 2)) 1):V)=(V.fz true 6 (ae .i64 (fun (ii jj:Nat)=>(BL.biF (Int.tmod b 2) ii jj))) (BL.biN (Int.tmod b 2)) 1))))))
theorem aaV (r:Int) (E:Nat→Nat→Int) (b:Int) (h:0≤b∧b≤255) (q:0≤Int.tmod b 4∧Int.tmod b 4≤63) (q2:0≤Int.tmod b 2∧Int.tmod b 2≤63) (z:biN (Int.tmod b 4)=0):VC (aC Tryz.prog XSo 900 12 (enc [.st [.sl 1 A B,.sl 1 I J,.rr 1 n M f,.i .i64 r,.sl 5 2 E],.one (.i .u8 b)] 0) 4 (fun v H=>bY 4 H v 1 1 (fun _ _=>Int.tmod b 2))) (.go 1361 .nil):=ai (((small b)=true∧((cond true (cond (ak 0 (Int.tmod b 4)) (ak (Int.tmod b 4) 63) false) false)=true∧((aP (((BL.biN (Int.tmod b 4)):Nat):Int) 0)=true∧((small b)=true∧((((1):Int)=1)∧(((((Int.tmod b 2):Int)=(Int.tmod b 2))∧True)∧True)))))))
theorem abk (r:Int) (E:Nat→Nat→Int) (b:Int) (h:0≤b∧b≤255) (q:0≤Int.tmod b 4∧Int.tmod b 4≤63) (z:¬ biN (Int.tmod b 4)=0) (z2:biN (Int.tmod b 4)≤6):VC (aC Tryz.prog XSo 900 12 (enc [.st [.sl 1 A B,.sl 1 I J,.rr 1 n M f,.i .i64 r,.sl 5 2 E],.one (.i .u8 b)] 0) 4 (fun v H=>bY 4 H v (biN (Int.tmod b 4)) 1 (biF (Int.tmod b 4)))) (.go 401 .nil):=ai (((small b)=true∧((cond true (cond (ak 0 (Int.tmod b 4)) (ak (Int.tmod b 4) 63) false) false)=true∧((aP (((BL.biN (Int.tmod b 4)):Nat):Int) 0)=false∧(((V.fz true 6 (ae .i64 (fun (ii jj:Nat)=>(BL.biF (Int.tmod b 4) ii jj))) (BL.biN (Int.tmod b 4)) 1):V)=(V.fz true 6 (ae .i64 (fun (ii jj:Nat)=>(BL.biF (Int.tmod b 4) ii jj))) (BL.biN (Int.tmod b 4)) 1))))))
theorem abz (r:Int) (E:Nat→Nat→Int) (b:Int) (h:0≤b∧b≤255) (q:0≤Int.tmod b 8∧Int.tmod b 8≤63) (q2:0≤Int.tmod b 3∧Int.tmod b 3≤63) (z:biN (Int.tmod b 8)=0):VC (aC Tryz.prog XSo 900 12 (enc [.st [.sl 1 A B,.sl 1 I J,.rr 1 n M f,.i .i64 r,.sl 5 3 E],.one (.i .u8 b)] 0) 4 (fun v H=>bY 4 H v 1 1 (fun _ _=>Int.tmod b 3))) (.go 1361 .nil):=ai (((small b)=true∧((cond true (cond (ak 0 (Int.tmod b 8)) (ak (Int.tmod b 8) 63) false) false)=true∧((aP (((BL.biN (Int.tmod b 8)):Nat):Int) 0)=true∧((small b)=true∧((((1):Int)=1)∧(((((Int.tmod b 3):Int)=(Int.tmod b 3))∧True)∧True)))))))
theorem abm (r:Int) (E:Nat→Nat→Int) (b:Int) (h:0≤b∧b≤255) (q:0≤Int.tmod b 8∧Int.tmod b 8≤63) (z:¬ biN (Int.tmod b 8)=0) (z2:biN (Int.tmod b 8)≤6):VC (aC Tryz.prog XSo 900 12 (enc [.st [.sl 1 A B,.sl 1 I J,.rr 1 n M f,.i .i64 r,.sl 5 3 E],.one (.i .u8 b)] 0) 4 (fun v H=>bY 4 H v (biN (Int.tmod b 8)) 1 (biF (Int.tmod b 8)))) (.go 401 .nil):=ai (((small b)=true∧((cond true (cond (ak 0 (Int.tmod b 8)) (ak (Int.tmod b 8) 63) false) false)=true∧((aP (((BL.biN (Int.tmod b 8)):Nat):Int) 0)=false∧(((V.fz true 6 (ae .i64 (fun (ii jj:Nat)=>(BL.biF (Int.tmod b 8) ii jj))) (BL.biN (Int.tmod b 8)) 1):V)=(V.fz true 6 (ae .i64 (fun (ii jj:Nat)=>(BL.biF (Int.tmod b 8) ii jj))) (BL.biN (Int.tmod b 8)) 1))))))
theorem aba (r:Int) (E:Nat→Nat→Int) (b:Int) (h:0≤b∧b≤255) (q:0≤Int.tmod b 16∧Int.tmod b 16≤63) (q2:0≤Int.tmod b 4∧Int.tmod b 4≤63) (z:biN (Int.tmod b 16)=0):VC (aC Tryz.prog XSo 900 12 (enc [.st [.sl 1 A B,.sl 1 I J,.rr 1 n M f,.i .i64 r,.sl 5 4 E],.one (.i .u8 b)] 0) 4 (fun v H=>bY 4 H v 1 1 (fun _ _=>Int.tmod b 4))) (.go 1361 .nil):=ai (((small b)=true∧((cond true (cond (ak 0 (Int.tmod b 16)) (ak (Int.tmod b 16) 63) false) false)=true∧((aP (((BL.biN (Int.tmod b 16)):Nat):Int) 0)=true∧((small b)=true∧((((1):Int)=1)∧(((((Int.tmod b 4):Int)=(Int.tmod b 4))∧True)∧True)))))))
theorem ack (r:Int) (E:Nat→Nat→Int) (b:Int) (h:0≤b∧b≤255) (q:0≤Int.tmod b 16∧Int.tmod b 16≤63) (z:¬ biN (Int.tmod b 16)=0) (z2:biN (Int.tmod b 16)≤6):VC (aC Tryz.prog XSo 900 12 (enc [.st [.sl 1 A B,.sl 1 I J,.rr 1 n M f,.i .i64 r,.sl 5 4 E],.one (.i .u8 b)] 0) 4 (fun v H=>bY 4 H v (biN (Int.tmod b 16)) 1 (biF (Int.tmod b 16)))) (.go 401 .nil):=ai (((small b)=true∧((cond true (cond (ak 0 (Int.tmod b 16)) (ak (Int.tmod b 16) 63) false) false)=true∧((aP (((BL.biN (Int.tmod b 16)):Nat):Int) 0)=false∧(((V.fz true 6 (ae .i64 (fun (ii jj:Nat)=>(BL.biF (Int.tmod b 16) ii jj))) (BL.biN (Int.tmod b 16)) 1):V)=(V.fz true 6 (ae .i64 (fun (ii jj:Nat)=>(BL.biF (Int.tmod b 16) ii jj))) (BL.biN (Int.tmod b 16)) 1))))))
theorem acg (r:Int) (E:Nat→Nat→Int) (b:Int) (h:0≤b∧b≤255) (q:0≤Int.tmod b 32∧Int.tmod b 32≤63) (q2:0≤Int.tmod b 5∧Int.tmod b 5≤63) (z:biN (Int.tmod b 32)=0):VC (aC Tryz.prog XSo 900 12 (enc [.st [.sl 1 A B,.sl 1 I J,.rr 1 n M f,.i .i64 r,.sl 5 5 E],.one (.i .u8 b)] 0) 4 (fun v H=>bY 4 H v 1 1 (fun _ _=>Int.tmod b 5))) (.go 1361 .nil):=ai (((small b)=true∧((cond true (cond (ak 0 (Int.tmod b 32)) (ak (Int.tmod b 32) 63) false) false)=true∧((aP (((BL.biN (Int.tmod b 32)):Nat):Int) 0)=true∧((small b)=true∧((((1):Int)=1)∧(((((Int.tmod b 5):Int)=(Int.tmod b 5))∧True)∧True)))))))
theorem acd (r:Int) (E:Nat→Nat→Int) (b:Int) (h:0≤b∧b≤255) (q:0≤Int.tmod b 32∧Int.tmod b 32≤63) (z:¬ biN (Int.tmod b 32)=0) (z2:biN (Int.tmod b 32)≤6):VC (aC Tryz.prog XSo 900 12 (enc [.st [.sl 1 A B,.sl 1 I J,.rr 1 n M f,.i .i64 r,.sl 5 5 E],.one (.i .u8 b)] 0) 4 (fun v H=>bY 4 H v (biN (Int.tmod b 32)) 1 (biF (Int.tmod b 32)))) (.go 401 .nil):=ai (((small b)=true∧((cond true (cond (ak 0 (Int.tmod b 32)) (ak (Int.tmod b 32) 63) false) false)=true∧((aP (((BL.biN (Int.tmod b 32)):Nat):Int) 0)=false∧(((V.fz true 6 (ae .i64 (fun (ii jj:Nat)=>(BL.biF (Int.tmod b 32) ii jj))) (BL.biN (Int.tmod b 32)) 1):V)=(V.fz true 6 (ae .i64 (fun (ii jj:Nat)=>(BL.biF (Int.tmod b 32) ii jj))) (BL.biN (Int.tmod b 32)) 1))))))
theorem aa9 (r:Int) (E:Nat→Nat→Int) (b:Int) (h:0≤b∧b≤255) (q:0≤Int.tmod b 64∧Int.tmod b 64≤63) (q2:0≤Int.tmod b 6∧Int.tmod b 6≤63) (z:biN (Int.tmod b 64)=0):VC (aC Tryz.prog XSo 900 12 (enc [.st [.sl 1 A B,.sl 1 I J,.rr 1 n M f,.i .i64 r,.sl 5 6 E],.one (.i .u8 b)] 0) 4 (fun v H=>bY 4 H v 1 1 (fun _ _=>Int.tmod b 6))) (.go 1361 .nil):=ai (((small b)=true∧((cond true (cond (ak 0 (Int.tmod b 64)) (ak (Int.tmod b 64) 63) false) false)=true∧((aP (((BL.biN (Int.tmod b 64)):Nat):Int) 0)=true∧((small b)=true∧((((1):Int)=1)∧(((((Int.tmod b 6):Int)=(Int.tmod b 6))∧True)∧True)))))))
theorem acl (r:Int) (E:Nat→Nat→Int) (b:Int) (h:0≤b∧b≤255) (q:0≤Int.tmod b 64∧Int.tmod b 64≤63) (z:¬ biN (Int.tmod b 64)=0) (z2:biN (Int.tmod b 64)≤6):VC (aC Tryz.prog XSo 900 12 (enc [.st [.sl 1 A B,.sl 1 I J,.rr 1 n M f,.i .i64 r,.sl 5 6 E],.one (.i .u8 b)] 0) 4 (fun v H=>bY 4 H v (biN (Int.tmod b 64)) 1 (biF (Int.tmod b 64)))) (.go 401 .nil):=ai (((small b)=true∧((cond true (cond (ak 0 (Int.tmod b 64)) (ak (Int.tmod b 64) 63) false) false)=true∧((aP (((BL.biN (Int.tmod b 64)):Nat):Int) 0)=false∧(((V.fz true 6 (ae .i64 (fun (ii jj:Nat)=>(BL.biF (Int.tmod b 64) ii jj))) (BL.biN (Int.tmod b 64)) 1):V)=(V.fz true 6 (ae .i64 (fun (ii jj:Nat)=>(BL.biF (Int.tmod b 64) ii jj))) (BL.biN (Int.tmod b 64)) 1))))))
def TM:Val:=fun das=>match das with | [.st [.sl 1 A B,.sl 1 I J,.rr 1 n M f,.i .i64 r,.sl 5 O E],.one (.i .u8 b)]=>some (cond (Nat.ble 1 O) (cond (Nat.ble O 6) (cond (ak 0 b) (ak b 255) false) false) false,.fz true 0 (ae .i64 (soF O b)) (soN O b) 1) | _=>none
theorem IC {O:Nat} {b:Int} (z:biN (yD O b)=0):soN O b=1∧soF O b=fun _ _=>Int.tmod b (Int.ofNat O):=by
 constructor
 ·unfold soN;rw [z];rfl
 ·funext i j;unfold soF;rw [z];rfl
theorem GN {O:Nat} {b:Int} (z:¬ biN (yD O b)=0):soN O b=biN (yD O b)∧soF O b=biF (yD O b):=by
 have e:Nat.beq (biN (yD O b)) 0=false:=(lu _ _).mpr z
 constructor
 ·unfold soN;rw [e];rfl
 ·funext i j;unfold soF;rw [e];rfl
theorem qH (n i:Nat) (l:List Int):Ws (yI n i l)≤Ws l+1:=by
 unfold yI
 cases Nat.beq (Nat.mod (Nat.div n (Nat.pow 2 i)) 2) 1 with
 | true=>exact Nat.le_refl _
 | false=>exact Nat.le_succ _
theorem sS (b:Int):biN b≤6:=by
 unfold biN biL
 have h0:Ws []=0:=rfl
 have h5:=qH (Int.toNat b) 5 []
 have h4:=qH (Int.toNat b) 4 (yI (Int.toNat b) 5 [])
 have h3:=qH (Int.toNat b) 3 (yI (Int.toNat b) 4 (yI (Int.toNat b) 5 []))
 have h2:=qH (Int.toNat b) 2 (yI (Int.toNat b) 3 (yI (Int.toNat b) 4 (yI (Int.toNat b) 5 [])))
 have h1:=qH (Int.toNat b) 1 (yI (Int.toNat b) 2 (yI (Int.toNat b) 3 (yI (Int.toNat b) 4 (yI (Int.toNat b) 5 []))))
 have h:=qH (Int.toNat b) 0 (yI (Int.toNat b) 1 (yI (Int.toNat b) 2 (yI (Int.toNat b) 3 (yI (Int.toNat b) 4 (yI (Int.toNat b) 5 [])))))
 omega
theorem jA {b p:Int} (h:0≤b) (hp:0<p):0≤Int.tmod b p∧Int.tmod b p<p:=by
 rw [Int.tmod_eq_emod_of_nonneg h]
 exact ⟨Int.emod_nonneg _ (by omega),Int.emod_lt_of_pos _ hp⟩
theorem aaq:Yq Tryz.prog 12 TM:=by
 intro das v hv
 unfold TM at hv
 split at hv
 ·rename_i A B I J n M f r O E b
  have hb:=congrArg Prod.fst (Option.some.inj hv)
  have hv:=congrArg Prod.snd (Option.some.inj hv)
  subst hv
  obtain ⟨h1,hb⟩:=ah hb
  obtain ⟨h2,hb⟩:=ah hb
  obtain ⟨h3,h4⟩:=ah hb
  have h1:=Nat.le_of_ble_eq_true h1
  have h2:=Nat.le_of_ble_eq_true h2
  rw [aY] at h3 h4
  have hn:O=1∨O=2∨O=3∨O=4∨O=5∨O=6:=by omega
  rcases hn with rfl | rfl | rfl | rfl | rfl | rfl
  ·have q:=jA (p:=2) h3 (by decide)
   have q2:=jA (p:=1) h3 (by decide)
   by_cases z:biN (yD 1 b)=0
   ·obtain ⟨e1,e2⟩:=IC z
    rw [e1,e2]
    obtain ⟨v',H',g1,g2⟩:=aA aj kF (aaX A B I J n M f r E b ⟨h3,h4⟩ (by omega) (by omega) z)
    exact ⟨v',H',g1,fun new => .one (.one (gJ g2 new))⟩
   ·obtain ⟨e1,e2⟩:=GN z
    rw [e1,e2]
    obtain ⟨v',H',g1,g2⟩:=aA aj kF (aco A B I J n M f r E b ⟨h3,h4⟩ (by omega) z (sS _))
    exact ⟨v',H',g1,fun new => .one (.one (gJ g2 new))⟩
  ·have q:=jA (p:=4) h3 (by decide)
   have q2:=jA (p:=2) h3 (by decide)
   by_cases z:biN (yD 2 b)=0
   ·obtain ⟨e1,e2⟩:=IC z
    rw [e1,e2]
    obtain ⟨v',H',g1,g2⟩:=aA aj kF (aaV A B I J n M f r E b ⟨h3,h4⟩ (by omega) (by omega) z)
    exact ⟨v',H',g1,fun new => .one (.one (gJ g2 new))⟩
   ·obtain ⟨e1,e2⟩:=GN z
    rw [e1,e2]
    obtain ⟨v',H',g1,g2⟩:=aA aj kF (abk A B I J n M f r E b ⟨h3,h4⟩ (by omega) z (sS _))
    exact ⟨v',H',g1,fun new => .one (.one (gJ g2 new))⟩
  ·have q:=jA (p:=8) h3 (by decide)
   have q2:=jA (p:=3) h3 (by decide)
   by_cases z:biN (yD 3 b)=0
   ·obtain ⟨e1,e2⟩:=IC z
    rw [e1,e2]
    obtain ⟨v',H',g1,g2⟩:=aA aj kF (abz A B I J n M f r E b ⟨h3,h4⟩ (by omega) (by omega) z)
    exact ⟨v',H',g1,fun new => .one (.one (gJ g2 new))⟩
   ·obtain ⟨e1,e2⟩:=GN z
    rw [e1,e2]
    obtain ⟨v',H',g1,g2⟩:=aA aj kF (abm A B I J n M f r E b ⟨h3,h4⟩ (by omega) z (sS _))
    exact ⟨v',H',g1,fun new => .one (.one (gJ g2 new))⟩
  ·have q:=jA (p:=16) h3 (by decide)
   have q2:=jA (p:=4) h3 (by decide)
   by_cases z:biN (yD 4 b)=0
   ·obtain ⟨e1,e2⟩:=IC z
    rw [e1,e2]
    obtain ⟨v',H',g1,g2⟩:=aA aj kF (aba A B I J n M f r E b ⟨h3,h4⟩ (by omega) (by omega) z)
    exact ⟨v',H',g1,fun new => .one (.one (gJ g2 new))⟩
   ·obtain ⟨e1,e2⟩:=GN z
    rw [e1,e2]
    obtain ⟨v',H',g1,g2⟩:=aA aj kF (ack A B I J n M f r E b ⟨h3,h4⟩ (by omega) z (sS _))
    exact ⟨v',H',g1,fun new => .one (.one (gJ g2 new))⟩
  ·have q:=jA (p:=32) h3 (by decide)
   have q2:=jA (p:=5) h3 (by decide)
   by_cases z:biN (yD 5 b)=0
   ·obtain ⟨e1,e2⟩:=IC z
    rw [e1,e2]
    obtain ⟨v',H',g1,g2⟩:=aA aj kF (acg A B I J n M f r E b ⟨h3,h4⟩ (by omega) (by omega) z)
    exact ⟨v',H',g1,fun new => .one (.one (gJ g2 new))⟩
   ·obtain ⟨e1,e2⟩:=GN z
    rw [e1,e2]
    obtain ⟨v',H',g1,g2⟩:=aA aj kF (acd A B I J n M f r E b ⟨h3,h4⟩ (by omega) z (sS _))
    exact ⟨v',H',g1,fun new => .one (.one (gJ g2 new))⟩
  ·have q:=jA (p:=64) h3 (by decide)
   have q2:=jA (p:=6) h3 (by decide)
   by_cases z:biN (yD 6 b)=0
   ·obtain ⟨e1,e2⟩:=IC z
    rw [e1,e2]
    obtain ⟨v',H',g1,g2⟩:=aA aj kF (aa9 A B I J n M f r E b ⟨h3,h4⟩ (by omega) (by omega) z)
    exact ⟨v',H',g1,fun new => .one (.one (gJ g2 new))⟩
   ·obtain ⟨e1,e2⟩:=GN z
    rw [e1,e2]
    obtain ⟨v',H',g1,g2⟩:=aA aj kF (acl A B I J n M f r E b ⟨h3,h4⟩ (by omega) z (sS _))
    exact ⟨v',H',g1,fun new => .one (.one (gJ g2 new))⟩
 ·cases hv
end
end BL
end Go.Proofs.YtpfcfonplmhmiaaGreat
