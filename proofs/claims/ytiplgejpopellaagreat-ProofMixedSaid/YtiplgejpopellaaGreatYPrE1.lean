/- Casks: lists by bits, and the reference's strength of a blend, as contracts. -/
import Derived.Test.YtiplgejpopellaaGreatYPrS4
import Derived.Test.YtiplgejpopellaaGreatYPrL3
import Derived.Test.YtiplgejpopellaaGreatYEe
set_option linter.all false
set_option linter.unusedSimpArgs false
set_option linter.unusedVariables false
namespace Go.Proofs.YtiplgejpopellaaGreat
namespace BL
open Go Go.Ev
set_option maxRecDepth 1000000
set_option maxHeartbeats 0
noncomputable section
variable (A:Nat) (B:Nat→Nat→Int) (I:Nat) (J:Nat→Nat→Int) (n:Nat) (M:Nat→Nat) (f:Nat→Nat→Nat→Int)
theorem iq {k:Nat} {H:EH} {v:V} {len e:Nat} {f:Nat→Nat→Int} (h:bY k H v len e f) (new:Nat):Fn0 H k new v (.fz true new (ae .i64 f) len e):=by
 unfold bY at h
 split at h
 ·have h:(0:Nat)=len:=by injection h
  subst h
  exact .nilS
 ·obtain ⟨h1,h2⟩:=dF h
  obtain ⟨_,rfl,rfl,rfl⟩:=Ec h2
  exact .fz (dh h1) (fun _ _ _ _=>rfl) (fun _ _ _ _ => .int _ _) (fun _ _ _ _ => .int _ _)
 ·rename_i b off l e'
  obtain ⟨h1,h2⟩:=h
  have h1:l=len:=by injection h1
  subst h1
  split at h2
  ·rename_i c lo sz g hb
   obtain ⟨q1,h3⟩:=dF h2
   clear h2
   obtain ⟨q2,h4⟩:=dF h3
   clear h3
   obtain ⟨q3,h5⟩:=dF h4
   clear h4
   have:=nb q1
   subst this
   have q2:=Nat.le_of_ble_eq_true q2
   have q3:off+l*e'≤sz:=Nat.le_of_ble_eq_true q3
   refine .slice (d:=ae .i64 f) hb q2 q3 (fun i j hi hj=>?_) (fun _ _ _ _=>rfl) (fun _ _ _ _ => .int _ _) (fun _ _ _ _ => .int _ _)
   have:=zW h5 i j hi hj
   rw [Nat.zero_add] at this
   exact this
  ·exact h2.elim
 ·exact h.elim
def yU (n i:Nat) (l:List Int):List Int:=cond (Nat.beq (Nat.mod (Nat.div n (Nat.pow 2 i)) 2) 1) (Int.ofNat i::l) l
def biL (n:Nat):List Int:=yU n 0 (yU n 1 (yU n 2 (yU n 3 (yU n 4 (yU n 5 [])))))
def Wi (l:List Int):Nat:=List.rec (motive:=fun _=>Nat) 0 (fun _ _ ih=>Nat.succ ih) l
def biF (n:Int) (i _j:Nat):Int:=XQ (biL (Int.toNat n)) i
def biN (n:Int):Nat:=Wi (biL (Int.toNat n))
theorem bi0  : VC (aI Tryz.prog az 900 36 (enc [.one (.i .i64 0)] 0) 0 (fun v H=>bY 0 H v 0 1 (biF 0))) .nil:=ai ((((0):Int)=(0)))
theorem bi1  : VC (aI Tryz.prog az 900 36 (enc [.one (.i .i64 1)] 0) 0 (fun v H=>bY 0 H v 1 1 (biF 1))) .nil:=ai (((((1):Int)=(1))∧(((((0):Int)=(0))∧True)∧True)))
theorem bi2  : VC (aI Tryz.prog az 900 36 (enc [.one (.i .i64 2)] 0) 0 (fun v H=>bY 0 H v 1 1 (biF 2))) .nil:=ai (((((1):Int)=(1))∧(((((1):Int)=(1))∧True)∧True)))
theorem bi3  : VC (aI Tryz.prog az 900 36 (enc [.one (.i .i64 3)] 0) 0 (fun v H=>bY 0 H v 2 1 (biF 3))) .nil:=ai (((((2):Int)=(2))∧(((((0):Int)=(0))∧True)∧(((((1):Int)=(1))∧True)∧True))))
theorem bi4  : VC (aI Tryz.prog az 900 36 (enc [.one (.i .i64 4)] 0) 0 (fun v H=>bY 0 H v 1 1 (biF 4))) .nil:=ai (((((1):Int)=(1))∧(((((2):Int)=(2))∧True)∧True)))
theorem bi5  : VC (aI Tryz.prog az 900 36 (enc [.one (.i .i64 5)] 0) 0 (fun v H=>bY 0 H v 2 1 (biF 5))) .nil:=ai (((((2):Int)=(2))∧(((((0):Int)=(0))∧True)∧(((((2):Int)=(2))∧True)∧True))))
theorem bi6  : VC (aI Tryz.prog az 900 36 (enc [.one (.i .i64 6)] 0) 0 (fun v H=>bY 0 H v 2 1 (biF 6))) .nil:=ai (((((2):Int)=(2))∧(((((1):Int)=(1))∧True)∧(((((2):Int)=(2))∧True)∧True))))
theorem bi7  : VC (aI Tryz.prog az 900 36 (enc [.one (.i .i64 7)] 0) 0 (fun v H=>bY 0 H v 3 1 (biF 7))) .nil:=ai (((((3):Int)=(3))∧(((((0):Int)=(0))∧True)∧(((((1):Int)=(1))∧True)∧(((((2):Int)=(2))∧True)∧True)))))
theorem bi8  : VC (aI Tryz.prog az 900 36 (enc [.one (.i .i64 8)] 0) 0 (fun v H=>bY 0 H v 1 1 (biF 8))) .nil:=ai (((((1):Int)=(1))∧(((((3):Int)=(3))∧True)∧True)))
theorem bi9  : VC (aI Tryz.prog az 900 36 (enc [.one (.i .i64 9)] 0) 0 (fun v H=>bY 0 H v 2 1 (biF 9))) .nil:=ai (((((2):Int)=(2))∧(((((0):Int)=(0))∧True)∧(((((3):Int)=(3))∧True)∧True))))
theorem abk  : VC (aI Tryz.prog az 900 36 (enc [.one (.i .i64 10)] 0) 0 (fun v H=>bY 0 H v 2 1 (biF 10))) .nil:=ai (((((2):Int)=(2))∧(((((1):Int)=(1))∧True)∧(((((3):Int)=(3))∧True)∧True))))
theorem ab2  : VC (aI Tryz.prog az 900 36 (enc [.one (.i .i64 11)] 0) 0 (fun v H=>bY 0 H v 3 1 (biF 11))) .nil:=ai (((((3):Int)=(3))∧(((((0):Int)=(0))∧True)∧(((((1):Int)=(1))∧True)∧(((((3):Int)=(3))∧True)∧True)))))
theorem aav  : VC (aI Tryz.prog az 900 36 (enc [.one (.i .i64 12)] 0) 0 (fun v H=>bY 0 H v 2 1 (biF 12))) .nil:=ai (((((2):Int)=(2))∧(((((2):Int)=(2))∧True)∧(((((3):Int)=(3))∧True)∧True))))
theorem aa0  : VC (aI Tryz.prog az 900 36 (enc [.one (.i .i64 13)] 0) 0 (fun v H=>bY 0 H v 3 1 (biF 13))) .nil:=ai (((((3):Int)=(3))∧(((((0):Int)=(0))∧True)∧(((((2):Int)=(2))∧True)∧(((((3):Int)=(3))∧True)∧True)))))
theorem aaY  : VC (aI Tryz.prog az 900 36 (enc [.one (.i .i64 14)] 0) 0 (fun v H=>bY 0 H v 3 1 (biF 14))) .nil:=ai (((((3):Int)=(3))∧(((((1):Int)=(1))∧True)∧(((((2):Int)=(2))∧True)∧(((((3):Int)=(3))∧True)∧True)))))
theorem ace  : VC (aI Tryz.prog az 900 36 (enc [.one (.i .i64 15)] 0) 0 (fun v H=>bY 0 H v 4 1 (biF 15))) .nil:=ai (((((4):Int)=(4))∧(((((0):Int)=(0))∧True)∧(((((1):Int)=(1))∧True)∧(((((2):Int)=(2))∧True)∧(((((3):Int)=(3))∧True)∧True))))))
theorem abR  : VC (aI Tryz.prog az 900 36 (enc [.one (.i .i64 16)] 0) 0 (fun v H=>bY 0 H v 1 1 (biF 16))) .nil:=ai (((((1):Int)=(1))∧(((((4):Int)=(4))∧True)∧True)))
theorem aba  : VC (aI Tryz.prog az 900 36 (enc [.one (.i .i64 17)] 0) 0 (fun v H=>bY 0 H v 2 1 (biF 17))) .nil:=ai (((((2):Int)=(2))∧(((((0):Int)=(0))∧True)∧(((((4):Int)=(4))∧True)∧True))))
theorem abt  : VC (aI Tryz.prog az 900 36 (enc [.one (.i .i64 18)] 0) 0 (fun v H=>bY 0 H v 2 1 (biF 18))) .nil:=ai (((((2):Int)=(2))∧(((((1):Int)=(1))∧True)∧(((((4):Int)=(4))∧True)∧True))))
theorem abr  : VC (aI Tryz.prog az 900 36 (enc [.one (.i .i64 19)] 0) 0 (fun v H=>bY 0 H v 3 1 (biF 19))) .nil:=ai (((((3):Int)=(3))∧(((((0):Int)=(0))∧True)∧(((((1):Int)=(1))∧True)∧(((((4):Int)=(4))∧True)∧True)))))
theorem acA  : VC (aI Tryz.prog az 900 36 (enc [.one (.i .i64 20)] 0) 0 (fun v H=>bY 0 H v 2 1 (biF 20))) .nil:=ai (((((2):Int)=(2))∧(((((2):Int)=(2))∧True)∧(((((4):Int)=(4))∧True)∧True))))
theorem abW  : VC (aI Tryz.prog az 900 36 (enc [.one (.i .i64 21)] 0) 0 (fun v H=>bY 0 H v 3 1 (biF 21))) .nil:=ai (((((3):Int)=(3))∧(((((0):Int)=(0))∧True)∧(((((2):Int)=(2))∧True)∧(((((4):Int)=(4))∧True)∧True)))))
theorem aay  : VC (aI Tryz.prog az 900 36 (enc [.one (.i .i64 22)] 0) 0 (fun v H=>bY 0 H v 3 1 (biF 22))) .nil:=ai (((((3):Int)=(3))∧(((((1):Int)=(1))∧True)∧(((((2):Int)=(2))∧True)∧(((((4):Int)=(4))∧True)∧True)))))
theorem aci  : VC (aI Tryz.prog az 900 36 (enc [.one (.i .i64 23)] 0) 0 (fun v H=>bY 0 H v 4 1 (biF 23))) .nil:=ai (((((4):Int)=(4))∧(((((0):Int)=(0))∧True)∧(((((1):Int)=(1))∧True)∧(((((2):Int)=(2))∧True)∧(((((4):Int)=(4))∧True)∧True))))))
theorem acd  : VC (aI Tryz.prog az 900 36 (enc [.one (.i .i64 24)] 0) 0 (fun v H=>bY 0 H v 2 1 (biF 24))) .nil:=ai (((((2):Int)=(2))∧(((((3):Int)=(3))∧True)∧(((((4):Int)=(4))∧True)∧True))))
theorem aaN  : VC (aI Tryz.prog az 900 36 (enc [.one (.i .i64 25)] 0) 0 (fun v H=>bY 0 H v 3 1 (biF 25))) .nil:=ai (((((3):Int)=(3))∧(((((0):Int)=(0))∧True)∧(((((3):Int)=(3))∧True)∧(((((4):Int)=(4))∧True)∧True)))))
theorem aaL  : VC (aI Tryz.prog az 900 36 (enc [.one (.i .i64 26)] 0) 0 (fun v H=>bY 0 H v 3 1 (biF 26))) .nil:=ai (((((3):Int)=(3))∧(((((1):Int)=(1))∧True)∧(((((3):Int)=(3))∧True)∧(((((4):Int)=(4))∧True)∧True)))))
theorem acm  : VC (aI Tryz.prog az 900 36 (enc [.one (.i .i64 27)] 0) 0 (fun v H=>bY 0 H v 4 1 (biF 27))) .nil:=ai (((((4):Int)=(4))∧(((((0):Int)=(0))∧True)∧(((((1):Int)=(1))∧True)∧(((((3):Int)=(3))∧True)∧(((((4):Int)=(4))∧True)∧True))))))
theorem abn  : VC (aI Tryz.prog az 900 36 (enc [.one (.i .i64 28)] 0) 0 (fun v H=>bY 0 H v 3 1 (biF 28))) .nil:=ai (((((3):Int)=(3))∧(((((2):Int)=(2))∧True)∧(((((3):Int)=(3))∧True)∧(((((4):Int)=(4))∧True)∧True)))))
theorem acz  : VC (aI Tryz.prog az 900 36 (enc [.one (.i .i64 29)] 0) 0 (fun v H=>bY 0 H v 4 1 (biF 29))) .nil:=ai (((((4):Int)=(4))∧(((((0):Int)=(0))∧True)∧(((((2):Int)=(2))∧True)∧(((((3):Int)=(3))∧True)∧(((((4):Int)=(4))∧True)∧True))))))
theorem abG  : VC (aI Tryz.prog az 900 36 (enc [.one (.i .i64 30)] 0) 0 (fun v H=>bY 0 H v 4 1 (biF 30))) .nil:=ai (((((4):Int)=(4))∧(((((1):Int)=(1))∧True)∧(((((2):Int)=(2))∧True)∧(((((3):Int)=(3))∧True)∧(((((4):Int)=(4))∧True)∧True))))))
theorem abC  : VC (aI Tryz.prog az 900 36 (enc [.one (.i .i64 31)] 0) 0 (fun v H=>bY 0 H v 5 1 (biF 31))) .nil:=ai (((((5):Int)=(5))∧(((((0):Int)=(0))∧True)∧(((((1):Int)=(1))∧True)∧(((((2):Int)=(2))∧True)∧(((((3):Int)=(3))∧True)∧(((((4):Int)=(4))∧True)∧True)))))))
theorem abM  : VC (aI Tryz.prog az 900 36 (enc [.one (.i .i64 32)] 0) 0 (fun v H=>bY 0 H v 1 1 (biF 32))) .nil:=ai (((((1):Int)=(1))∧(((((5):Int)=(5))∧True)∧True)))
theorem ach  : VC (aI Tryz.prog az 900 36 (enc [.one (.i .i64 33)] 0) 0 (fun v H=>bY 0 H v 2 1 (biF 33))) .nil:=ai (((((2):Int)=(2))∧(((((0):Int)=(0))∧True)∧(((((5):Int)=(5))∧True)∧True))))
theorem abg  : VC (aI Tryz.prog az 900 36 (enc [.one (.i .i64 34)] 0) 0 (fun v H=>bY 0 H v 2 1 (biF 34))) .nil:=ai (((((2):Int)=(2))∧(((((1):Int)=(1))∧True)∧(((((5):Int)=(5))∧True)∧True))))
theorem aaW  : VC (aI Tryz.prog az 900 36 (enc [.one (.i .i64 35)] 0) 0 (fun v H=>bY 0 H v 3 1 (biF 35))) .nil:=ai (((((3):Int)=(3))∧(((((0):Int)=(0))∧True)∧(((((1):Int)=(1))∧True)∧(((((5):Int)=(5))∧True)∧True)))))
theorem acn  : VC (aI Tryz.prog az 900 36 (enc [.one (.i .i64 36)] 0) 0 (fun v H=>bY 0 H v 2 1 (biF 36))) .nil:=ai (((((2):Int)=(2))∧(((((2):Int)=(2))∧True)∧(((((5):Int)=(5))∧True)∧True))))
theorem abv  : VC (aI Tryz.prog az 900 36 (enc [.one (.i .i64 37)] 0) 0 (fun v H=>bY 0 H v 3 1 (biF 37))) .nil:=ai (((((3):Int)=(3))∧(((((0):Int)=(0))∧True)∧(((((2):Int)=(2))∧True)∧(((((5):Int)=(5))∧True)∧True)))))
theorem abE  : VC (aI Tryz.prog az 900 36 (enc [.one (.i .i64 38)] 0) 0 (fun v H=>bY 0 H v 3 1 (biF 38))) .nil:=ai (((((3):Int)=(3))∧(((((1):Int)=(1))∧True)∧(((((2):Int)=(2))∧True)∧(((((5):Int)=(5))∧True)∧True)))))
theorem aaO  : VC (aI Tryz.prog az 900 36 (enc [.one (.i .i64 39)] 0) 0 (fun v H=>bY 0 H v 4 1 (biF 39))) .nil:=ai (((((4):Int)=(4))∧(((((0):Int)=(0))∧True)∧(((((1):Int)=(1))∧True)∧(((((2):Int)=(2))∧True)∧(((((5):Int)=(5))∧True)∧True))))))
theorem ab1  : VC (aI Tryz.prog az 900 36 (enc [.one (.i .i64 40)] 0) 0 (fun v H=>bY 0 H v 2 1 (biF 40))) .nil:=ai (((((2):Int)=(2))∧(((((3):Int)=(3))∧True)∧(((((5):Int)=(5))∧True)∧True))))
theorem abS  : VC (aI Tryz.prog az 900 36 (enc [.one (.i .i64 41)] 0) 0 (fun v H=>bY 0 H v 3 1 (biF 41))) .nil:=ai (((((3):Int)=(3))∧(((((0):Int)=(0))∧True)∧(((((3):Int)=(3))∧True)∧(((((5):Int)=(5))∧True)∧True)))))
theorem acb  : VC (aI Tryz.prog az 900 36 (enc [.one (.i .i64 42)] 0) 0 (fun v H=>bY 0 H v 3 1 (biF 42))) .nil:=ai (((((3):Int)=(3))∧(((((1):Int)=(1))∧True)∧(((((3):Int)=(3))∧True)∧(((((5):Int)=(5))∧True)∧True)))))
theorem aaR  : VC (aI Tryz.prog az 900 36 (enc [.one (.i .i64 43)] 0) 0 (fun v H=>bY 0 H v 4 1 (biF 43))) .nil:=ai (((((4):Int)=(4))∧(((((0):Int)=(0))∧True)∧(((((1):Int)=(1))∧True)∧(((((3):Int)=(3))∧True)∧(((((5):Int)=(5))∧True)∧True))))))
theorem abl  : VC (aI Tryz.prog az 900 36 (enc [.one (.i .i64 44)] 0) 0 (fun v H=>bY 0 H v 3 1 (biF 44))) .nil:=ai (((((3):Int)=(3))∧(((((2):Int)=(2))∧True)∧(((((3):Int)=(3))∧True)∧(((((5):Int)=(5))∧True)∧True)))))
theorem aaC  : VC (aI Tryz.prog az 900 36 (enc [.one (.i .i64 45)] 0) 0 (fun v H=>bY 0 H v 4 1 (biF 45))) .nil:=ai (((((4):Int)=(4))∧(((((0):Int)=(0))∧True)∧(((((2):Int)=(2))∧True)∧(((((3):Int)=(3))∧True)∧(((((5):Int)=(5))∧True)∧True))))))
theorem abz  : VC (aI Tryz.prog az 900 36 (enc [.one (.i .i64 46)] 0) 0 (fun v H=>bY 0 H v 4 1 (biF 46))) .nil:=ai (((((4):Int)=(4))∧(((((1):Int)=(1))∧True)∧(((((2):Int)=(2))∧True)∧(((((3):Int)=(3))∧True)∧(((((5):Int)=(5))∧True)∧True))))))
theorem acf  : VC (aI Tryz.prog az 900 36 (enc [.one (.i .i64 47)] 0) 0 (fun v H=>bY 0 H v 5 1 (biF 47))) .nil:=ai (((((5):Int)=(5))∧(((((0):Int)=(0))∧True)∧(((((1):Int)=(1))∧True)∧(((((2):Int)=(2))∧True)∧(((((3):Int)=(3))∧True)∧(((((5):Int)=(5))∧True)∧True)))))))
theorem abH  : VC (aI Tryz.prog az 900 36 (enc [.one (.i .i64 48)] 0) 0 (fun v H=>bY 0 H v 2 1 (biF 48))) .nil:=ai (((((2):Int)=(2))∧(((((4):Int)=(4))∧True)∧(((((5):Int)=(5))∧True)∧True))))
theorem aaQ  : VC (aI Tryz.prog az 900 36 (enc [.one (.i .i64 49)] 0) 0 (fun v H=>bY 0 H v 3 1 (biF 49))) .nil:=ai (((((3):Int)=(3))∧(((((0):Int)=(0))∧True)∧(((((4):Int)=(4))∧True)∧(((((5):Int)=(5))∧True)∧True)))))
theorem aa6  : VC (aI Tryz.prog az 900 36 (enc [.one (.i .i64 50)] 0) 0 (fun v H=>bY 0 H v 3 1 (biF 50))) .nil:=ai (((((3):Int)=(3))∧(((((1):Int)=(1))∧True)∧(((((4):Int)=(4))∧True)∧(((((5):Int)=(5))∧True)∧True)))))
theorem aa2  : VC (aI Tryz.prog az 900 36 (enc [.one (.i .i64 51)] 0) 0 (fun v H=>bY 0 H v 4 1 (biF 51))) .nil:=ai (((((4):Int)=(4))∧(((((0):Int)=(0))∧True)∧(((((1):Int)=(1))∧True)∧(((((4):Int)=(4))∧True)∧(((((5):Int)=(5))∧True)∧True))))))
theorem acp  : VC (aI Tryz.prog az 900 36 (enc [.one (.i .i64 52)] 0) 0 (fun v H=>bY 0 H v 3 1 (biF 52))) .nil:=ai (((((3):Int)=(3))∧(((((2):Int)=(2))∧True)∧(((((4):Int)=(4))∧True)∧(((((5):Int)=(5))∧True)∧True)))))
theorem abX  : VC (aI Tryz.prog az 900 36 (enc [.one (.i .i64 53)] 0) 0 (fun v H=>bY 0 H v 4 1 (biF 53))) .nil:=ai (((((4):Int)=(4))∧(((((0):Int)=(0))∧True)∧(((((2):Int)=(2))∧True)∧(((((4):Int)=(4))∧True)∧(((((5):Int)=(5))∧True)∧True))))))
theorem abQ  : VC (aI Tryz.prog az 900 36 (enc [.one (.i .i64 54)] 0) 0 (fun v H=>bY 0 H v 4 1 (biF 54))) .nil:=ai (((((4):Int)=(4))∧(((((1):Int)=(1))∧True)∧(((((2):Int)=(2))∧True)∧(((((4):Int)=(4))∧True)∧(((((5):Int)=(5))∧True)∧True))))))
theorem aaH  : VC (aI Tryz.prog az 900 36 (enc [.one (.i .i64 55)] 0) 0 (fun v H=>bY 0 H v 5 1 (biF 55))) .nil:=ai (((((5):Int)=(5))∧(((((0):Int)=(0))∧True)∧(((((1):Int)=(1))∧True)∧(((((2):Int)=(2))∧True)∧(((((4):Int)=(4))∧True)∧(((((5):Int)=(5))∧True)∧True)))))))
theorem ab6  : VC (aI Tryz.prog az 900 36 (enc [.one (.i .i64 56)] 0) 0 (fun v H=>bY 0 H v 3 1 (biF 56))) .nil:=ai (((((3):Int)=(3))∧(((((3):Int)=(3))∧True)∧(((((4):Int)=(4))∧True)∧(((((5):Int)=(5))∧True)∧True)))))
theorem abI  : VC (aI Tryz.prog az 900 36 (enc [.one (.i .i64 57)] 0) 0 (fun v H=>bY 0 H v 4 1 (biF 57))) .nil:=ai (((((4):Int)=(4))∧(((((0):Int)=(0))∧True)∧(((((3):Int)=(3))∧True)∧(((((4):Int)=(4))∧True)∧(((((5):Int)=(5))∧True)∧True))))))
theorem abp  : VC (aI Tryz.prog az 900 36 (enc [.one (.i .i64 58)] 0) 0 (fun v H=>bY 0 H v 4 1 (biF 58))) .nil:=ai (((((4):Int)=(4))∧(((((1):Int)=(1))∧True)∧(((((3):Int)=(3))∧True)∧(((((4):Int)=(4))∧True)∧(((((5):Int)=(5))∧True)∧True))))))
theorem aaZ  : VC (aI Tryz.prog az 900 36 (enc [.one (.i .i64 59)] 0) 0 (fun v H=>bY 0 H v 5 1 (biF 59))) .nil:=ai (((((5):Int)=(5))∧(((((0):Int)=(0))∧True)∧(((((1):Int)=(1))∧True)∧(((((3):Int)=(3))∧True)∧(((((4):Int)=(4))∧True)∧(((((5):Int)=(5))∧True)∧True)))))))
theorem acy  : VC (aI Tryz.prog az 900 36 (enc [.one (.i .i64 60)] 0) 0 (fun v H=>bY 0 H v 4 1 (biF 60))) .nil:=ai (((((4):Int)=(4))∧(((((2):Int)=(2))∧True)∧(((((3):Int)=(3))∧True)∧(((((4):Int)=(4))∧True)∧(((((5):Int)=(5))∧True)∧True))))))
theorem abK  : VC (aI Tryz.prog az 900 36 (enc [.one (.i .i64 61)] 0) 0 (fun v H=>bY 0 H v 5 1 (biF 61))) .nil:=ai (((((5):Int)=(5))∧(((((0):Int)=(0))∧True)∧(((((2):Int)=(2))∧True)∧(((((3):Int)=(3))∧True)∧(((((4):Int)=(4))∧True)∧(((((5):Int)=(5))∧True)∧True)))))))
theorem aaI  : VC (aI Tryz.prog az 900 36 (enc [.one (.i .i64 62)] 0) 0 (fun v H=>bY 0 H v 5 1 (biF 62))) .nil:=ai (((((5):Int)=(5))∧(((((1):Int)=(1))∧True)∧(((((2):Int)=(2))∧True)∧(((((3):Int)=(3))∧True)∧(((((4):Int)=(4))∧True)∧(((((5):Int)=(5))∧True)∧True)))))))
theorem aby  : VC (aI Tryz.prog az 900 36 (enc [.one (.i .i64 63)] 0) 0 (fun v H=>bY 0 H v 6 1 (biF 63))) .nil:=ai (((((6):Int)=(6))∧(((((0):Int)=(0))∧True)∧(((((1):Int)=(1))∧True)∧(((((2):Int)=(2))∧True)∧(((((3):Int)=(3))∧True)∧(((((4):Int)=(4))∧True)∧(((((5):Int)=(5))∧True)∧True))))))))
def RN:Val:=fun das=>match das with | [.one (.i .i64 b)]=>some (cond (ax 0 b) (ax b 63) false,.fz true 0 (ae .i64 (biF b)) (biN b) 1) | _=>none
theorem aao:WJ Tryz.prog 36 RN:=by
 intro das v hv
 unfold RN at hv
 split at hv
 ·rename_i b
  have hb:=congrArg Prod.fst (Option.some.inj hv)
  have hv:=congrArg Prod.snd (Option.some.inj hv)
  subst hv
  obtain ⟨h1,h2⟩:=ah hb
  rw [aU] at h1 h2
  have fin:∀ {c:Int} {m:Nat} {h:HT},biN c=m→VC (aI Tryz.prog az 900 36 (enc [.one (.i .i64 c)] 0) 0 (fun v H=>bY 0 H v m 1 (biF c))) h→∃ v' H',SpecCall Tryz.prog 36 (enc [.one (.i .i64 c)] 0) (aP 1) v' H'∧∀ new,FnV H' 0 new v' (Ri new (.fz true 0 (ae .i64 (biF c)) (biN c) 1)):=fun e hvc=>by
   subst e
   obtain ⟨v',H',h1,h2⟩:=aO aj ak hvc
   exact ⟨v',H',h1,fun new => .one (.one (iq h2 new))⟩
  obtain ⟨k,rfl⟩:∃ k:Nat,b=Int.ofNat k:=⟨Int.toNat b,by have:(Int.toNat b:Int)=b:=Int.toNat_of_nonneg h1;exact this.symm⟩
  have hk:k<64:=by have h2:(k:Int)≤63:=h2;omega
  match k,hk with
  | 0,_=>exact fin rfl bi0
  | 1,_=>exact fin rfl bi1
  | 2,_=>exact fin rfl bi2
  | 3,_=>exact fin rfl bi3
  | 4,_=>exact fin rfl bi4
  | 5,_=>exact fin rfl bi5
  | 6,_=>exact fin rfl bi6
  | 7,_=>exact fin rfl bi7
  | 8,_=>exact fin rfl bi8
  | 9,_=>exact fin rfl bi9
  | 10,_=>exact fin rfl abk
  | 11,_=>exact fin rfl ab2
  | 12,_=>exact fin rfl aav
  | 13,_=>exact fin rfl aa0
  | 14,_=>exact fin rfl aaY
  | 15,_=>exact fin rfl ace
  | 16,_=>exact fin rfl abR
  | 17,_=>exact fin rfl aba
  | 18,_=>exact fin rfl abt
  | 19,_=>exact fin rfl abr
  | 20,_=>exact fin rfl acA
  | 21,_=>exact fin rfl abW
  | 22,_=>exact fin rfl aay
  | 23,_=>exact fin rfl aci
  | 24,_=>exact fin rfl acd
  | 25,_=>exact fin rfl aaN
  | 26,_=>exact fin rfl aaL
  | 27,_=>exact fin rfl acm
  | 28,_=>exact fin rfl abn
  | 29,_=>exact fin rfl acz
  | 30,_=>exact fin rfl abG
  | 31,_=>exact fin rfl abC
  | 32,_=>exact fin rfl abM
  | 33,_=>exact fin rfl ach
  | 34,_=>exact fin rfl abg
  | 35,_=>exact fin rfl aaW
  | 36,_=>exact fin rfl acn
  | 37,_=>exact fin rfl abv
  | 38,_=>exact fin rfl abE
  | 39,_=>exact fin rfl aaO
  | 40,_=>exact fin rfl ab1
  | 41,_=>exact fin rfl abS
  | 42,_=>exact fin rfl acb
  | 43,_=>exact fin rfl aaR
  | 44,_=>exact fin rfl abl
  | 45,_=>exact fin rfl aaC
  | 46,_=>exact fin rfl abz
  | 47,_=>exact fin rfl acf
  | 48,_=>exact fin rfl abH
  | 49,_=>exact fin rfl aaQ
  | 50,_=>exact fin rfl aa6
  | 51,_=>exact fin rfl aa2
  | 52,_=>exact fin rfl acp
  | 53,_=>exact fin rfl abX
  | 54,_=>exact fin rfl abQ
  | 55,_=>exact fin rfl aaH
  | 56,_=>exact fin rfl ab6
  | 57,_=>exact fin rfl abI
  | 58,_=>exact fin rfl abp
  | 59,_=>exact fin rfl aaZ
  | 60,_=>exact fin rfl acy
  | 61,_=>exact fin rfl abK
  | 62,_=>exact fin rfl aaI
  | 63,_=>exact fin rfl aby
 ·cases hv
def zH (O:Nat) (b:Int):Int:=Int.tmod b (Int.ofNat (Nat.pow 2 O))
def soF (O:Nat) (b:Int) (i j:Nat):Int:=cond (Nat.beq (biN (zH O b)) 0) (Int.tmod b (Int.ofNat O)) (biF (zH O b) i j)
def soN (O:Nat) (b:Int):Nat:=cond (Nat.beq (biN (zH O b)) 0) 1 (biN (zH O b))
def XSo:Ext:=ku [(36,cfN RN)] false
theorem kz:dE Tryz.prog XSo:=dH (aA (WI aao) bJ)
theorem ab8 (r:Int) (E:Nat→Nat→Int) (b:Int) (h:0≤b∧b≤255) (q:0≤Int.tmod b 2∧Int.tmod b 2≤63) (q2:0≤Int.tmod b 1∧Int.tmod b 1≤63) (z:biN (Int.tmod b 2)=0):VC (aI Tryz.prog XSo 900 16 (enc [.st [.sl 1 A B,.sl 1 I J,.rr 1 n M f,.i .i64 r,.sl 5 1 E],.one (.i .u8 b)] 0) 4 (fun v H=>bY 4 H v 1 1 (fun _ _=>Int.tmod b 1))) (.go 1361 .nil):=ai (((small b)=true∧((cond true (cond (ax 0 (Int.tmod b 2)) (ax (Int.tmod b 2) 63) false) false)=true∧((aY (((BL.biN (Int.tmod b 2)):Nat):Int) 0)=true∧((small b)=true∧((((1):Int)=1)∧(((((Int.tmod b 1):Int)=(Int.tmod b 1))∧True)∧True)))))))
theorem acl (r:Int) (E:Nat→Nat→Int) (b:Int) (h:0≤b∧b≤255) (q:0≤Int.tmod b 2∧Int.tmod b 2≤63) (z:¬ biN (Int.tmod b 2)=0) (z2:biN (Int.tmod b 2)≤6):VC (aI Tryz.prog XSo 900 16 (enc [.st [.sl 1 A B,.sl 1 I J,.rr 1 n M f,.i .i64 r,.sl 5 1 E],.one (.i .u8 b)] 0) 4 (fun v H=>bY 4 H v (biN (Int.tmod b 2)) 1 (biF (Int.tmod b 2)))) (.go 401 .nil):=ai (((small b)=true∧((cond true (cond (ax 0 (Int.tmod b 2)) (ax (Int.tmod b 2) 63) false) false)=true∧((aY (((BL.biN (Int.tmod b 2)):Nat):Int) 0)=false∧(((V.fz true 6 (ae .i64 (fun (ii jj:Nat)=>(BL.biF (Int.tmod b 2) ii jj))) (BL.biN (Int.tmod b 2)) 1):V)=(V.fz true 6 (ae .i64 (fun (ii jj:Nat)=>(BL.biF (Int.tmod b 2) ii jj))) (BL.biN (Int.tmod b 2)) 1))))))
theorem ab4 (r:Int) (E:Nat→Nat→Int) (b:Int) (h:0≤b∧b≤255) (q:0≤Int.tmod b 4∧Int.tmod b 4≤63) (q2:0≤Int.tmod b 2∧Int.tmod b 2≤63) (z:biN (Int.tmod b 4)=0):VC (aI Tryz.prog XSo 900 16 (enc [.st [.sl 1 A B,.sl 1 I J,.rr 1 n M f,.i .i64 r,.sl 5 2 E],.one (.i .u8 b)] 0) 4 (fun v H=>bY 4 H v 1 1 (fun _ _=>Int.tmod b 2))) (.go 1361 .nil):=ai (((small b)=true∧((cond true (cond (ax 0 (Int.tmod b 4)) (ax (Int.tmod b 4) 63) false) false)=true∧((aY (((BL.biN (Int.tmod b 4)):Nat):Int) 0)=true∧((small b)=true∧((((1):Int)=1)∧(((((Int.tmod b 2):Int)=(Int.tmod b 2))∧True)∧True)))))))
theorem abN (r:Int) (E:Nat→Nat→Int) (b:Int) (h:0≤b∧b≤255) (q:0≤Int.tmod b 4∧Int.tmod b 4≤63) (z:¬ biN (Int.tmod b 4)=0) (z2:biN (Int.tmod b 4)≤6):VC (aI Tryz.prog XSo 900 16 (enc [.st [.sl 1 A B,.sl 1 I J,.rr 1 n M f,.i .i64 r,.sl 5 2 E],.one (.i .u8 b)] 0) 4 (fun v H=>bY 4 H v (biN (Int.tmod b 4)) 1 (biF (Int.tmod b 4)))) (.go 401 .nil):=ai (((small b)=true∧((cond true (cond (ax 0 (Int.tmod b 4)) (ax (Int.tmod b 4) 63) false) false)=true∧((aY (((BL.biN (Int.tmod b 4)):Nat):Int) 0)=false∧(((V.fz true 6 (ae .i64 (fun (ii jj:Nat)=>(BL.biF (Int.tmod b 4) ii jj))) (BL.biN (Int.tmod b 4)) 1):V)=(V.fz true 6 (ae .i64 (fun (ii jj:Nat)=>(BL.biF (Int.tmod b 4) ii jj))) (BL.biN (Int.tmod b 4)) 1))))))
theorem abq (r:Int) (E:Nat→Nat→Int) (b:Int) (h:0≤b∧b≤255) (q:0≤Int.tmod b 8∧Int.tmod b 8≤63) (q2:0≤Int.tmod b 3∧Int.tmod b 3≤63) (z:biN (Int.tmod b 8)=0):VC (aI Tryz.prog XSo 900 16 (enc [.st [.sl 1 A B,.sl 1 I J,.rr 1 n M f,.i .i64 r,.sl 5 3 E],.one (.i .u8 b)] 0) 4 (fun v H=>bY 4 H v 1 1 (fun _ _=>Int.tmod b 3))) (.go 1361 .nil):=ai (((small b)=true∧((cond true (cond (ax 0 (Int.tmod b 8)) (ax (Int.tmod b 8) 63) false) false)=true∧((aY (((BL.biN (Int.tmod b 8)):Nat):Int) 0)=true∧((small b)=true∧((((1):Int)=1)∧(((((Int.tmod b 3):Int)=(Int.tmod b 3))∧True)∧True)))))))
theorem aaT (r:Int) (E:Nat→Nat→Int) (b:Int) (h:0≤b∧b≤255) (q:0≤Int.tmod b 8∧Int.tmod b 8≤63) (z:¬ biN (Int.tmod b 8)=0) (z2:biN (Int.tmod b 8)≤6):VC (aI Tryz.prog XSo 900 16 (enc [.st [.sl 1 A B,.sl 1 I J,.rr 1 n M f,.i .i64 r,.sl 5 3 E],.one (.i .u8 b)] 0) 4 (fun v H=>bY 4 H v (biN (Int.tmod b 8)) 1 (biF (Int.tmod b 8)))) (.go 401 .nil):=ai (((small b)=true∧((cond true (cond (ax 0 (Int.tmod b 8)) (ax (Int.tmod b 8) 63) false) false)=true∧((aY (((BL.biN (Int.tmod b 8)):Nat):Int) 0)=false∧(((V.fz true 6 (ae .i64 (fun (ii jj:Nat)=>(BL.biF (Int.tmod b 8) ii jj))) (BL.biN (Int.tmod b 8)) 1):V)=(V.fz true 6 (ae .i64 (fun (ii jj:Nat)=>(BL.biF (Int.tmod b 8) ii jj))) (BL.biN (Int.tmod b 8)) 1))))))
theorem aaB (r:Int) (E:Nat→Nat→Int) (b:Int) (h:0≤b∧b≤255) (q:0≤Int.tmod b 16∧Int.tmod b 16≤63) (q2:0≤Int.tmod b 4∧Int.tmod b 4≤63) (z:biN (Int.tmod b 16)=0):VC (aI Tryz.prog XSo 900 16 (enc [.st [.sl 1 A B,.sl 1 I J,.rr 1 n M f,.i .i64 r,.sl 5 4 E],.one (.i .u8 b)] 0) 4 (fun v H=>bY 4 H v 1 1 (fun _ _=>Int.tmod b 4))) (.go 1361 .nil):=ai (((small b)=true∧((cond true (cond (ax 0 (Int.tmod b 16)) (ax (Int.tmod b 16) 63) false) false)=true∧((aY (((BL.biN (Int.tmod b 16)):Nat):Int) 0)=true∧((small b)=true∧((((1):Int)=1)∧(((((Int.tmod b 4):Int)=(Int.tmod b 4))∧True)∧True)))))))
theorem abo (r:Int) (E:Nat→Nat→Int) (b:Int) (h:0≤b∧b≤255) (q:0≤Int.tmod b 16∧Int.tmod b 16≤63) (z:¬ biN (Int.tmod b 16)=0) (z2:biN (Int.tmod b 16)≤6):VC (aI Tryz.prog XSo 900 16 (enc [.st [.sl 1 A B,.sl 1 I J,.rr 1 n M f,.i .i64 r,.sl 5 4 E],.one (.i .u8 b)] 0) 4 (fun v H=>bY 4 H v (biN (Int.tmod b 16)) 1 (biF (Int.tmod b 16)))) (.go 401 .nil):=ai (((small b)=true∧((cond true (cond (ax 0 (Int.tmod b 16)) (ax (Int.tmod b 16) 63) false) false)=true∧((aY (((BL.biN (Int.tmod b 16)):Nat):Int) 0)=false∧(((V.fz true 6 (ae .i64 (fun (ii jj:Nat)=>(BL.biF (Int.tmod b 16) ii jj))) (BL.biN (Int.tmod b 16)) 1):V)=(V.fz true 6 (ae .i64 (fun (ii jj:Nat)=>(BL.biF (Int.tmod b 16) ii jj))) (BL.biN (Int.tmod b 16)) 1))))))
theorem abZ (r:Int) (E:Nat→Nat→Int) (b:Int) (h:0≤b∧b≤255) (q:0≤Int.tmod b 32∧Int.tmod b 32≤63) (q2:0≤Int.tmod b 5∧Int.tmod b 5≤63) (z:biN (Int.tmod b 32)=0):VC (aI Tryz.prog XSo 900 16 (enc [.st [.sl 1 A B,.sl 1 I J,.rr 1 n M f,.i .i64 r,.sl 5 5 E],.one (.i .u8 b)] 0) 4 (fun v H=>bY 4 H v 1 1 (fun _ _=>Int.tmod b 5))) (.go 1361 .nil):=ai (((small b)=true∧((cond true (cond (ax 0 (Int.tmod b 32)) (ax (Int.tmod b 32) 63) false) false)=true∧((aY (((BL.biN (Int.tmod b 32)):Nat):Int) 0)=true∧((small b)=true∧((((1):Int)=1)∧(((((Int.tmod b 5):Int)=(Int.tmod b 5))∧True)∧True)))))))
theorem ab7 (r:Int) (E:Nat→Nat→Int) (b:Int) (h:0≤b∧b≤255) (q:0≤Int.tmod b 32∧Int.tmod b 32≤63) (z:¬ biN (Int.tmod b 32)=0) (z2:biN (Int.tmod b 32)≤6):VC (aI Tryz.prog XSo 900 16 (enc [.st [.sl 1 A B,.sl 1 I J,.rr 1 n M f,.i .i64 r,.sl 5 5 E],.one (.i .u8 b)] 0) 4 (fun v H=>bY 4 H v (biN (Int.tmod b 32)) 1 (biF (Int.tmod b 32)))) (.go 401 .nil):=ai (((small b)=true∧((cond true (cond (ax 0 (Int.tmod b 32)) (ax (Int.tmod b 32) 63) false) false)=true∧((aY (((BL.biN (Int.tmod b 32)):Nat):Int) 0)=false∧(((V.fz true 6 (ae .i64 (fun (ii jj:Nat)=>(BL.biF (Int.tmod b 32) ii jj))) (BL.biN (Int.tmod b 32)) 1):V)=(V.fz true 6 (ae .i64 (fun (ii jj:Nat)=>(BL.biF (Int.tmod b 32) ii jj))) (BL.biN (Int.tmod b 32)) 1))))))
theorem acu (r:Int) (E:Nat→Nat→Int) (b:Int) (h:0≤b∧b≤255) (q:0≤Int.tmod b 64∧Int.tmod b 64≤63) (q2:0≤Int.tmod b 6∧Int.tmod b 6≤63) (z:biN (Int.tmod b 64)=0):VC (aI Tryz.prog XSo 900 16 (enc [.st [.sl 1 A B,.sl 1 I J,.rr 1 n M f,.i .i64 r,.sl 5 6 E],.one (.i .u8 b)] 0) 4 (fun v H=>bY 4 H v 1 1 (fun _ _=>Int.tmod b 6))) (.go 1361 .nil):=ai (((small b)=true∧((cond true (cond (ax 0 (Int.tmod b 64)) (ax (Int.tmod b 64) 63) false) false)=true∧((aY (((BL.biN (Int.tmod b 64)):Nat):Int) 0)=true∧((small b)=true∧((((1):Int)=1)∧(((((Int.tmod b 6):Int)=(Int.tmod b 6))∧True)∧True)))))))
theorem acj (r:Int) (E:Nat→Nat→Int) (b:Int) (h:0≤b∧b≤255) (q:0≤Int.tmod b 64∧Int.tmod b 64≤63) (z:¬ biN (Int.tmod b 64)=0) (z2:biN (Int.tmod b 64)≤6):VC (aI Tryz.prog XSo 900 16 (enc [.st [.sl 1 A B,.sl 1 I J,.rr 1 n M f,.i .i64 r,.sl 5 6 E],.one (.i .u8 b)] 0) 4 (fun v H=>bY 4 H v (biN (Int.tmod b 64)) 1 (biF (Int.tmod b 64)))) (.go 401 .nil):=ai (((small b)=true∧((cond true (cond (ax 0 (Int.tmod b 64)) (ax (Int.tmod b 64) 63) false) false)=true∧((aY (((BL.biN (Int.tmod b 64)):Nat):Int) 0)=false∧(((V.fz true 6 (ae .i64 (fun (ii jj:Nat)=>(BL.biF (Int.tmod b 64) ii jj))) (BL.biN (Int.tmod b 64)) 1):V)=(V.fz true 6 (ae .i64 (fun (ii jj:Nat)=>(BL.biF (Int.tmod b 64) ii jj))) (BL.biN (Int.tmod b 64)) 1))))))
def TJ:Val:=fun das=>match das with | [.st [.sl 1 A B,.sl 1 I J,.rr 1 n M f,.i .i64 r,.sl 5 O E],.one (.i .u8 b)]=>some (cond (Nat.ble 1 O) (cond (Nat.ble O 6) (cond (ax 0 b) (ax b 255) false) false) false,.fz true 0 (ae .i64 (soF O b)) (soN O b) 1) | _=>none
theorem E8 {O:Nat} {b:Int} (z:biN (zH O b)=0):soN O b=1∧soF O b=fun _ _=>Int.tmod b (Int.ofNat O):=by
 constructor
 ·unfold soN;rw [z];rfl
 ·funext i j;unfold soF;rw [z];rfl
theorem FI {O:Nat} {b:Int} (z:¬ biN (zH O b)=0):soN O b=biN (zH O b)∧soF O b=biF (zH O b):=by
 have e:Nat.beq (biN (zH O b)) 0=false:=(oQ _ _).mpr z
 constructor
 ·unfold soN;rw [e];rfl
 ·funext i j;unfold soF;rw [e];rfl
theorem qH (n i:Nat) (l:List Int):Wi (yU n i l)≤Wi l+1:=by
 unfold yU
 cases Nat.beq (Nat.mod (Nat.div n (Nat.pow 2 i)) 2) 1 with
 | true=>exact Nat.le_refl _
 | false=>exact Nat.le_succ _
theorem rJ (b:Int):biN b≤6:=by
 unfold biN biL
 have h0:Wi []=0:=rfl
 have h5:=qH (Int.toNat b) 5 []
 have h4:=qH (Int.toNat b) 4 (yU (Int.toNat b) 5 [])
 have h3:=qH (Int.toNat b) 3 (yU (Int.toNat b) 4 (yU (Int.toNat b) 5 []))
 have h2:=qH (Int.toNat b) 2 (yU (Int.toNat b) 3 (yU (Int.toNat b) 4 (yU (Int.toNat b) 5 [])))
 have h1:=qH (Int.toNat b) 1 (yU (Int.toNat b) 2 (yU (Int.toNat b) 3 (yU (Int.toNat b) 4 (yU (Int.toNat b) 5 []))))
 have h:=qH (Int.toNat b) 0 (yU (Int.toNat b) 1 (yU (Int.toNat b) 2 (yU (Int.toNat b) 3 (yU (Int.toNat b) 4 (yU (Int.toNat b) 5 [])))))
 omega
theorem lL {b p:Int} (h:0≤b) (hp:0<p):0≤Int.tmod b p∧Int.tmod b p<p:=by
 rw [Int.tmod_eq_emod_of_nonneg h]
 exact ⟨Int.emod_nonneg _ (by omega),Int.emod_lt_of_pos _ hp⟩
theorem Zt:WJ Tryz.prog 16 TJ:=by
 intro das v hv
 unfold TJ at hv
 split at hv
 ·rename_i A B I J n M f r O E b
  have hb:=congrArg Prod.fst (Option.some.inj hv)
  have hv:=congrArg Prod.snd (Option.some.inj hv)
  subst hv
  obtain ⟨h1,hb⟩:=ah hb
  obtain ⟨h2,hb⟩:=ah hb
  obtain ⟨h3,h4⟩:=ah hb
  have h1:=Nat.le_of_ble_eq_true h1
  have h2:=Nat.le_of_ble_eq_true h2
  rw [aU] at h3 h4
  have hn:O=1∨O=2∨O=3∨O=4∨O=5∨O=6:=by omega
  rcases hn with rfl | rfl | rfl | rfl | rfl | rfl
  ·have q:=lL (p:=2) h3 (by decide)
   have q2:=lL (p:=1) h3 (by decide)
   by_cases z:biN (zH 1 b)=0
   ·obtain ⟨e1,e2⟩:=E8 z
    rw [e1,e2]
    obtain ⟨v',H',g1,g2⟩:=aO aj kz (ab8 A B I J n M f r E b ⟨h3,h4⟩ (by omega) (by omega) z)
    exact ⟨v',H',g1,fun new => .one (.one (iq g2 new))⟩
   ·obtain ⟨e1,e2⟩:=FI z
    rw [e1,e2]
    obtain ⟨v',H',g1,g2⟩:=aO aj kz (acl A B I J n M f r E b ⟨h3,h4⟩ (by omega) z (rJ _))
    exact ⟨v',H',g1,fun new => .one (.one (iq g2 new))⟩
  ·have q:=lL (p:=4) h3 (by decide)
   have q2:=lL (p:=2) h3 (by decide)
   by_cases z:biN (zH 2 b)=0
   ·obtain ⟨e1,e2⟩:=E8 z
    rw [e1,e2]
    obtain ⟨v',H',g1,g2⟩:=aO aj kz (ab4 A B I J n M f r E b ⟨h3,h4⟩ (by omega) (by omega) z)
    exact ⟨v',H',g1,fun new => .one (.one (iq g2 new))⟩
   ·obtain ⟨e1,e2⟩:=FI z
    rw [e1,e2]
    obtain ⟨v',H',g1,g2⟩:=aO aj kz (abN A B I J n M f r E b ⟨h3,h4⟩ (by omega) z (rJ _))
    exact ⟨v',H',g1,fun new => .one (.one (iq g2 new))⟩
  ·have q:=lL (p:=8) h3 (by decide)
   have q2:=lL (p:=3) h3 (by decide)
   by_cases z:biN (zH 3 b)=0
   ·obtain ⟨e1,e2⟩:=E8 z
    rw [e1,e2]
    obtain ⟨v',H',g1,g2⟩:=aO aj kz (abq A B I J n M f r E b ⟨h3,h4⟩ (by omega) (by omega) z)
    exact ⟨v',H',g1,fun new => .one (.one (iq g2 new))⟩
   ·obtain ⟨e1,e2⟩:=FI z
    rw [e1,e2]
    obtain ⟨v',H',g1,g2⟩:=aO aj kz (aaT A B I J n M f r E b ⟨h3,h4⟩ (by omega) z (rJ _))
    exact ⟨v',H',g1,fun new => .one (.one (iq g2 new))⟩
  ·have q:=lL (p:=16) h3 (by decide)
   have q2:=lL (p:=4) h3 (by decide)
   by_cases z:biN (zH 4 b)=0
   ·obtain ⟨e1,e2⟩:=E8 z
    rw [e1,e2]
    obtain ⟨v',H',g1,g2⟩:=aO aj kz (aaB A B I J n M f r E b ⟨h3,h4⟩ (by omega) (by omega) z)
    exact ⟨v',H',g1,fun new => .one (.one (iq g2 new))⟩
   ·obtain ⟨e1,e2⟩:=FI z
    rw [e1,e2]
    obtain ⟨v',H',g1,g2⟩:=aO aj kz (abo A B I J n M f r E b ⟨h3,h4⟩ (by omega) z (rJ _))
    exact ⟨v',H',g1,fun new => .one (.one (iq g2 new))⟩
  ·have q:=lL (p:=32) h3 (by decide)
   have q2:=lL (p:=5) h3 (by decide)
   by_cases z:biN (zH 5 b)=0
   ·obtain ⟨e1,e2⟩:=E8 z
    rw [e1,e2]
    obtain ⟨v',H',g1,g2⟩:=aO aj kz (abZ A B I J n M f r E b ⟨h3,h4⟩ (by omega) (by omega) z)
    exact ⟨v',H',g1,fun new => .one (.one (iq g2 new))⟩
   ·obtain ⟨e1,e2⟩:=FI z
    rw [e1,e2]
    obtain ⟨v',H',g1,g2⟩:=aO aj kz (ab7 A B I J n M f r E b ⟨h3,h4⟩ (by omega) z (rJ _))
    exact ⟨v',H',g1,fun new => .one (.one (iq g2 new))⟩
  ·have q:=lL (p:=64) h3 (by decide)
   have q2:=lL (p:=6) h3 (by decide)
   by_cases z:biN (zH 6 b)=0
   ·obtain ⟨e1,e2⟩:=E8 z
    rw [e1,e2]
    obtain ⟨v',H',g1,g2⟩:=aO aj kz (acu A B I J n M f r E b ⟨h3,h4⟩ (by omega) (by omega) z)
    exact ⟨v',H',g1,fun new => .one (.one (iq g2 new))⟩
   ·obtain ⟨e1,e2⟩:=FI z
    rw [e1,e2]
    obtain ⟨v',H',g1,g2⟩:=aO aj kz (acj A B I J n M f r E b ⟨h3,h4⟩ (by omega) z (rJ _))
    exact ⟨v',H',g1,fun new => .one (.one (iq g2 new))⟩
 ·cases hv
end
end BL
end Go.Proofs.YtiplgejpopellaaGreat
