/- Casks: lists by bits, and the reference's strength of a blend, as contracts. -/
import Derived.Test.YtclagbonpachfaaGreatYPrS4
import Derived.Test.YtclagbonpachfaaGreatYPrL3
import Derived.Test.YtclagbonpachfaaGreatYEe
set_option linter.all false
set_option linter.unusedSimpArgs false
set_option linter.unusedVariables false
namespace Go.Proofs.YtclagbonpachfaaGreat
namespace BL
open Go Go.Ev
set_option maxRecDepth 1000000
set_option maxHeartbeats 0
noncomputable section
variable (lw:Nat) (fw:Nat→Nat→Int) (lm:Nat) (fm:Nat→Nat→Int) (n:Nat) (ls:Nat→Nat) (f:Nat→Nat→Nat→Int)
theorem rowE_fn {k:Nat} {H:EH} {v:V} {len e:Nat} {f:Nat→Nat→Int} (h:rowE k H v len e f) (new:Nat):Fn0 H k new v (.fz true new (cellsI .i64 f) len e):=by
  unfold rowE at h
  split at h
  · have h:(0:Nat)=len:=by injection h
    subst h
    exact .nilS
  · obtain ⟨h1,h2⟩:=cond_and h
    obtain ⟨_,rfl,rfl,rfl⟩:=fz_inj h2
    exact .fz (blt_true h1) (fun _ _ _ _=>rfl) (fun _ _ _ _ => .int _ _) (fun _ _ _ _ => .int _ _)
  · rename_i b off l e'
    obtain ⟨h1,h2⟩:=h
    have h1:l=len:=by injection h1
    subst h1
    split at h2
    · rename_i c lo sz g hb
      obtain ⟨q1,h3⟩:=cond_and h2
      clear h2
      obtain ⟨q2,h4⟩:=cond_and h3
      clear h3
      obtain ⟨q3,h5⟩:=cond_and h4
      clear h4
      have:=nb q1
      subst this
      have q2:=Nat.le_of_ble_eq_true q2
      have q3:off+l*e'≤sz:=Nat.le_of_ble_eq_true q3
      refine .slice (d:=cellsI .i64 f) hb q2 q3 (fun i j hi hj=>?_) (fun _ _ _ _=>rfl) (fun _ _ _ _ => .int _ _) (fun _ _ _ _ => .int _ _)
      have:=cellIJ_get h5 i j hi hj
      rw [Nat.zero_add] at this
      exact this
    · exact h2.elim
  · exact h.elim
def biA (n i:Nat) (l:List Int):List Int:=cond (Nat.beq (Nat.mod (Nat.div n (Nat.pow 2 i)) 2) 1) (Int.ofNat i::l) l
def biL (n:Nat):List Int:=biA n 0 (biA n 1 (biA n 2 (biA n 3 (biA n 4 (biA n 5 [])))))
def lenI (l:List Int):Nat:=List.rec (motive:=fun _=>Nat) 0 (fun _ _ ih=>Nat.succ ih) l
def biF (n:Int) (i _j:Nat):Int:=nthI (biL (Int.toNat n)) i
def biN (n:Int):Nat:=lenI (biL (Int.toNat n))
theorem bi0  : VC (runDH Tryz.prog noExt 900 44 (enc [.one (.i .i64 0)] 0) 0 (fun v H=>rowE 0 H v 0 1 (biF 0))) .nil:=VC_of ((((0):Int)=(0)))
theorem bi1  : VC (runDH Tryz.prog noExt 900 44 (enc [.one (.i .i64 1)] 0) 0 (fun v H=>rowE 0 H v 1 1 (biF 1))) .nil:=VC_of (((((1):Int)=(1))∧(((((0):Int)=(0))∧True)∧True)))
theorem bi2  : VC (runDH Tryz.prog noExt 900 44 (enc [.one (.i .i64 2)] 0) 0 (fun v H=>rowE 0 H v 1 1 (biF 2))) .nil:=VC_of (((((1):Int)=(1))∧(((((1):Int)=(1))∧True)∧True)))
theorem bi3  : VC (runDH Tryz.prog noExt 900 44 (enc [.one (.i .i64 3)] 0) 0 (fun v H=>rowE 0 H v 2 1 (biF 3))) .nil:=VC_of (((((2):Int)=(2))∧(((((0):Int)=(0))∧True)∧(((((1):Int)=(1))∧True)∧True))))
theorem bi4  : VC (runDH Tryz.prog noExt 900 44 (enc [.one (.i .i64 4)] 0) 0 (fun v H=>rowE 0 H v 1 1 (biF 4))) .nil:=VC_of (((((1):Int)=(1))∧(((((2):Int)=(2))∧True)∧True)))
theorem bi5  : VC (runDH Tryz.prog noExt 900 44 (enc [.one (.i .i64 5)] 0) 0 (fun v H=>rowE 0 H v 2 1 (biF 5))) .nil:=VC_of (((((2):Int)=(2))∧(((((0):Int)=(0))∧True)∧(((((2):Int)=(2))∧True)∧True))))
theorem bi6  : VC (runDH Tryz.prog noExt 900 44 (enc [.one (.i .i64 6)] 0) 0 (fun v H=>rowE 0 H v 2 1 (biF 6))) .nil:=VC_of (((((2):Int)=(2))∧(((((1):Int)=(1))∧True)∧(((((2):Int)=(2))∧True)∧True))))
theorem bi7  : VC (runDH Tryz.prog noExt 900 44 (enc [.one (.i .i64 7)] 0) 0 (fun v H=>rowE 0 H v 3 1 (biF 7))) .nil:=VC_of (((((3):Int)=(3))∧(((((0):Int)=(0))∧True)∧(((((1):Int)=(1))∧True)∧(((((2):Int)=(2))∧True)∧True)))))
theorem bi8  : VC (runDH Tryz.prog noExt 900 44 (enc [.one (.i .i64 8)] 0) 0 (fun v H=>rowE 0 H v 1 1 (biF 8))) .nil:=VC_of (((((1):Int)=(1))∧(((((3):Int)=(3))∧True)∧True)))
theorem bi9  : VC (runDH Tryz.prog noExt 900 44 (enc [.one (.i .i64 9)] 0) 0 (fun v H=>rowE 0 H v 2 1 (biF 9))) .nil:=VC_of (((((2):Int)=(2))∧(((((0):Int)=(0))∧True)∧(((((3):Int)=(3))∧True)∧True))))
theorem bi10  : VC (runDH Tryz.prog noExt 900 44 (enc [.one (.i .i64 10)] 0) 0 (fun v H=>rowE 0 H v 2 1 (biF 10))) .nil:=VC_of (((((2):Int)=(2))∧(((((1):Int)=(1))∧True)∧(((((3):Int)=(3))∧True)∧True))))
theorem bi11  : VC (runDH Tryz.prog noExt 900 44 (enc [.one (.i .i64 11)] 0) 0 (fun v H=>rowE 0 H v 3 1 (biF 11))) .nil:=VC_of (((((3):Int)=(3))∧(((((0):Int)=(0))∧True)∧(((((1):Int)=(1))∧True)∧(((((3):Int)=(3))∧True)∧True)))))
theorem bi12  : VC (runDH Tryz.prog noExt 900 44 (enc [.one (.i .i64 12)] 0) 0 (fun v H=>rowE 0 H v 2 1 (biF 12))) .nil:=VC_of (((((2):Int)=(2))∧(((((2):Int)=(2))∧True)∧(((((3):Int)=(3))∧True)∧True))))
theorem bi13  : VC (runDH Tryz.prog noExt 900 44 (enc [.one (.i .i64 13)] 0) 0 (fun v H=>rowE 0 H v 3 1 (biF 13))) .nil:=VC_of (((((3):Int)=(3))∧(((((0):Int)=(0))∧True)∧(((((2):Int)=(2))∧True)∧(((((3):Int)=(3))∧True)∧True)))))
theorem bi14  : VC (runDH Tryz.prog noExt 900 44 (enc [.one (.i .i64 14)] 0) 0 (fun v H=>rowE 0 H v 3 1 (biF 14))) .nil:=VC_of (((((3):Int)=(3))∧(((((1):Int)=(1))∧True)∧(((((2):Int)=(2))∧True)∧(((((3):Int)=(3))∧True)∧True)))))
theorem bi15  : VC (runDH Tryz.prog noExt 900 44 (enc [.one (.i .i64 15)] 0) 0 (fun v H=>rowE 0 H v 4 1 (biF 15))) .nil:=VC_of (((((4):Int)=(4))∧(((((0):Int)=(0))∧True)∧(((((1):Int)=(1))∧True)∧(((((2):Int)=(2))∧True)∧(((((3):Int)=(3))∧True)∧True))))))
theorem bi16  : VC (runDH Tryz.prog noExt 900 44 (enc [.one (.i .i64 16)] 0) 0 (fun v H=>rowE 0 H v 1 1 (biF 16))) .nil:=VC_of (((((1):Int)=(1))∧(((((4):Int)=(4))∧True)∧True)))
theorem bi17  : VC (runDH Tryz.prog noExt 900 44 (enc [.one (.i .i64 17)] 0) 0 (fun v H=>rowE 0 H v 2 1 (biF 17))) .nil:=VC_of (((((2):Int)=(2))∧(((((0):Int)=(0))∧True)∧(((((4):Int)=(4))∧True)∧True))))
theorem bi18  : VC (runDH Tryz.prog noExt 900 44 (enc [.one (.i .i64 18)] 0) 0 (fun v H=>rowE 0 H v 2 1 (biF 18))) .nil:=VC_of (((((2):Int)=(2))∧(((((1):Int)=(1))∧True)∧(((((4):Int)=(4))∧True)∧True))))
theorem bi19  : VC (runDH Tryz.prog noExt 900 44 (enc [.one (.i .i64 19)] 0) 0 (fun v H=>rowE 0 H v 3 1 (biF 19))) .nil:=VC_of (((((3):Int)=(3))∧(((((0):Int)=(0))∧True)∧(((((1):Int)=(1))∧True)∧(((((4):Int)=(4))∧True)∧True)))))
theorem bi20  : VC (runDH Tryz.prog noExt 900 44 (enc [.one (.i .i64 20)] 0) 0 (fun v H=>rowE 0 H v 2 1 (biF 20))) .nil:=VC_of (((((2):Int)=(2))∧(((((2):Int)=(2))∧True)∧(((((4):Int)=(4))∧True)∧True))))
theorem bi21  : VC (runDH Tryz.prog noExt 900 44 (enc [.one (.i .i64 21)] 0) 0 (fun v H=>rowE 0 H v 3 1 (biF 21))) .nil:=VC_of (((((3):Int)=(3))∧(((((0):Int)=(0))∧True)∧(((((2):Int)=(2))∧True)∧(((((4):Int)=(4))∧True)∧True)))))
theorem bi22  : VC (runDH Tryz.prog noExt 900 44 (enc [.one (.i .i64 22)] 0) 0 (fun v H=>rowE 0 H v 3 1 (biF 22))) .nil:=VC_of (((((3):Int)=(3))∧(((((1):Int)=(1))∧True)∧(((((2):Int)=(2))∧True)∧(((((4):Int)=(4))∧True)∧True)))))
theorem bi23  : VC (runDH Tryz.prog noExt 900 44 (enc [.one (.i .i64 23)] 0) 0 (fun v H=>rowE 0 H v 4 1 (biF 23))) .nil:=VC_of (((((4):Int)=(4))∧(((((0):Int)=(0))∧True)∧(((((1):Int)=(1))∧True)∧(((((2):Int)=(2))∧True)∧(((((4):Int)=(4))∧True)∧True))))))
theorem bi24  : VC (runDH Tryz.prog noExt 900 44 (enc [.one (.i .i64 24)] 0) 0 (fun v H=>rowE 0 H v 2 1 (biF 24))) .nil:=VC_of (((((2):Int)=(2))∧(((((3):Int)=(3))∧True)∧(((((4):Int)=(4))∧True)∧True))))
theorem bi25  : VC (runDH Tryz.prog noExt 900 44 (enc [.one (.i .i64 25)] 0) 0 (fun v H=>rowE 0 H v 3 1 (biF 25))) .nil:=VC_of (((((3):Int)=(3))∧(((((0):Int)=(0))∧True)∧(((((3):Int)=(3))∧True)∧(((((4):Int)=(4))∧True)∧True)))))
theorem bi26  : VC (runDH Tryz.prog noExt 900 44 (enc [.one (.i .i64 26)] 0) 0 (fun v H=>rowE 0 H v 3 1 (biF 26))) .nil:=VC_of (((((3):Int)=(3))∧(((((1):Int)=(1))∧True)∧(((((3):Int)=(3))∧True)∧(((((4):Int)=(4))∧True)∧True)))))
theorem bi27  : VC (runDH Tryz.prog noExt 900 44 (enc [.one (.i .i64 27)] 0) 0 (fun v H=>rowE 0 H v 4 1 (biF 27))) .nil:=VC_of (((((4):Int)=(4))∧(((((0):Int)=(0))∧True)∧(((((1):Int)=(1))∧True)∧(((((3):Int)=(3))∧True)∧(((((4):Int)=(4))∧True)∧True))))))
theorem bi28  : VC (runDH Tryz.prog noExt 900 44 (enc [.one (.i .i64 28)] 0) 0 (fun v H=>rowE 0 H v 3 1 (biF 28))) .nil:=VC_of (((((3):Int)=(3))∧(((((2):Int)=(2))∧True)∧(((((3):Int)=(3))∧True)∧(((((4):Int)=(4))∧True)∧True)))))
theorem bi29  : VC (runDH Tryz.prog noExt 900 44 (enc [.one (.i .i64 29)] 0) 0 (fun v H=>rowE 0 H v 4 1 (biF 29))) .nil:=VC_of (((((4):Int)=(4))∧(((((0):Int)=(0))∧True)∧(((((2):Int)=(2))∧True)∧(((((3):Int)=(3))∧True)∧(((((4):Int)=(4))∧True)∧True))))))
theorem bi30  : VC (runDH Tryz.prog noExt 900 44 (enc [.one (.i .i64 30)] 0) 0 (fun v H=>rowE 0 H v 4 1 (biF 30))) .nil:=VC_of (((((4):Int)=(4))∧(((((1):Int)=(1))∧True)∧(((((2):Int)=(2))∧True)∧(((((3):Int)=(3))∧True)∧(((((4):Int)=(4))∧True)∧True))))))
theorem bi31  : VC (runDH Tryz.prog noExt 900 44 (enc [.one (.i .i64 31)] 0) 0 (fun v H=>rowE 0 H v 5 1 (biF 31))) .nil:=VC_of (((((5):Int)=(5))∧(((((0):Int)=(0))∧True)∧(((((1):Int)=(1))∧True)∧(((((2):Int)=(2))∧True)∧(((((3):Int)=(3))∧True)∧(((((4):Int)=(4))∧True)∧True)))))))
theorem bi32  : VC (runDH Tryz.prog noExt 900 44 (enc [.one (.i .i64 32)] 0) 0 (fun v H=>rowE 0 H v 1 1 (biF 32))) .nil:=VC_of (((((1):Int)=(1))∧(((((5):Int)=(5))∧True)∧True)))
theorem bi33  : VC (runDH Tryz.prog noExt 900 44 (enc [.one (.i .i64 33)] 0) 0 (fun v H=>rowE 0 H v 2 1 (biF 33))) .nil:=VC_of (((((2):Int)=(2))∧(((((0):Int)=(0))∧True)∧(((((5):Int)=(5))∧True)∧True))))
theorem bi34  : VC (runDH Tryz.prog noExt 900 44 (enc [.one (.i .i64 34)] 0) 0 (fun v H=>rowE 0 H v 2 1 (biF 34))) .nil:=VC_of (((((2):Int)=(2))∧(((((1):Int)=(1))∧True)∧(((((5):Int)=(5))∧True)∧True))))
theorem bi35  : VC (runDH Tryz.prog noExt 900 44 (enc [.one (.i .i64 35)] 0) 0 (fun v H=>rowE 0 H v 3 1 (biF 35))) .nil:=VC_of (((((3):Int)=(3))∧(((((0):Int)=(0))∧True)∧(((((1):Int)=(1))∧True)∧(((((5):Int)=(5))∧True)∧True)))))
theorem bi36  : VC (runDH Tryz.prog noExt 900 44 (enc [.one (.i .i64 36)] 0) 0 (fun v H=>rowE 0 H v 2 1 (biF 36))) .nil:=VC_of (((((2):Int)=(2))∧(((((2):Int)=(2))∧True)∧(((((5):Int)=(5))∧True)∧True))))
theorem bi37  : VC (runDH Tryz.prog noExt 900 44 (enc [.one (.i .i64 37)] 0) 0 (fun v H=>rowE 0 H v 3 1 (biF 37))) .nil:=VC_of (((((3):Int)=(3))∧(((((0):Int)=(0))∧True)∧(((((2):Int)=(2))∧True)∧(((((5):Int)=(5))∧True)∧True)))))
theorem bi38  : VC (runDH Tryz.prog noExt 900 44 (enc [.one (.i .i64 38)] 0) 0 (fun v H=>rowE 0 H v 3 1 (biF 38))) .nil:=VC_of (((((3):Int)=(3))∧(((((1):Int)=(1))∧True)∧(((((2):Int)=(2))∧True)∧(((((5):Int)=(5))∧True)∧True)))))
theorem bi39  : VC (runDH Tryz.prog noExt 900 44 (enc [.one (.i .i64 39)] 0) 0 (fun v H=>rowE 0 H v 4 1 (biF 39))) .nil:=VC_of (((((4):Int)=(4))∧(((((0):Int)=(0))∧True)∧(((((1):Int)=(1))∧True)∧(((((2):Int)=(2))∧True)∧(((((5):Int)=(5))∧True)∧True))))))
theorem bi40  : VC (runDH Tryz.prog noExt 900 44 (enc [.one (.i .i64 40)] 0) 0 (fun v H=>rowE 0 H v 2 1 (biF 40))) .nil:=VC_of (((((2):Int)=(2))∧(((((3):Int)=(3))∧True)∧(((((5):Int)=(5))∧True)∧True))))
theorem bi41  : VC (runDH Tryz.prog noExt 900 44 (enc [.one (.i .i64 41)] 0) 0 (fun v H=>rowE 0 H v 3 1 (biF 41))) .nil:=VC_of (((((3):Int)=(3))∧(((((0):Int)=(0))∧True)∧(((((3):Int)=(3))∧True)∧(((((5):Int)=(5))∧True)∧True)))))
theorem bi42  : VC (runDH Tryz.prog noExt 900 44 (enc [.one (.i .i64 42)] 0) 0 (fun v H=>rowE 0 H v 3 1 (biF 42))) .nil:=VC_of (((((3):Int)=(3))∧(((((1):Int)=(1))∧True)∧(((((3):Int)=(3))∧True)∧(((((5):Int)=(5))∧True)∧True)))))
theorem bi43  : VC (runDH Tryz.prog noExt 900 44 (enc [.one (.i .i64 43)] 0) 0 (fun v H=>rowE 0 H v 4 1 (biF 43))) .nil:=VC_of (((((4):Int)=(4))∧(((((0):Int)=(0))∧True)∧(((((1):Int)=(1))∧True)∧(((((3):Int)=(3))∧True)∧(((((5):Int)=(5))∧True)∧True))))))
theorem bi44  : VC (runDH Tryz.prog noExt 900 44 (enc [.one (.i .i64 44)] 0) 0 (fun v H=>rowE 0 H v 3 1 (biF 44))) .nil:=VC_of (((((3):Int)=(3))∧(((((2):Int)=(2))∧True)∧(((((3):Int)=(3))∧True)∧(((((5):Int)=(5))∧True)∧True)))))
theorem bi45  : VC (runDH Tryz.prog noExt 900 44 (enc [.one (.i .i64 45)] 0) 0 (fun v H=>rowE 0 H v 4 1 (biF 45))) .nil:=VC_of (((((4):Int)=(4))∧(((((0):Int)=(0))∧True)∧(((((2):Int)=(2))∧True)∧(((((3):Int)=(3))∧True)∧(((((5):Int)=(5))∧True)∧True))))))
theorem bi46  : VC (runDH Tryz.prog noExt 900 44 (enc [.one (.i .i64 46)] 0) 0 (fun v H=>rowE 0 H v 4 1 (biF 46))) .nil:=VC_of (((((4):Int)=(4))∧(((((1):Int)=(1))∧True)∧(((((2):Int)=(2))∧True)∧(((((3):Int)=(3))∧True)∧(((((5):Int)=(5))∧True)∧True))))))
theorem bi47  : VC (runDH Tryz.prog noExt 900 44 (enc [.one (.i .i64 47)] 0) 0 (fun v H=>rowE 0 H v 5 1 (biF 47))) .nil:=VC_of (((((5):Int)=(5))∧(((((0):Int)=(0))∧True)∧(((((1):Int)=(1))∧True)∧(((((2):Int)=(2))∧True)∧(((((3):Int)=(3))∧True)∧(((((5):Int)=(5))∧True)∧True)))))))
theorem bi48  : VC (runDH Tryz.prog noExt 900 44 (enc [.one (.i .i64 48)] 0) 0 (fun v H=>rowE 0 H v 2 1 (biF 48))) .nil:=VC_of (((((2):Int)=(2))∧(((((4):Int)=(4))∧True)∧(((((5):Int)=(5))∧True)∧True))))
theorem bi49  : VC (runDH Tryz.prog noExt 900 44 (enc [.one (.i .i64 49)] 0) 0 (fun v H=>rowE 0 H v 3 1 (biF 49))) .nil:=VC_of (((((3):Int)=(3))∧(((((0):Int)=(0))∧True)∧(((((4):Int)=(4))∧True)∧(((((5):Int)=(5))∧True)∧True)))))
theorem bi50  : VC (runDH Tryz.prog noExt 900 44 (enc [.one (.i .i64 50)] 0) 0 (fun v H=>rowE 0 H v 3 1 (biF 50))) .nil:=VC_of (((((3):Int)=(3))∧(((((1):Int)=(1))∧True)∧(((((4):Int)=(4))∧True)∧(((((5):Int)=(5))∧True)∧True)))))
theorem bi51  : VC (runDH Tryz.prog noExt 900 44 (enc [.one (.i .i64 51)] 0) 0 (fun v H=>rowE 0 H v 4 1 (biF 51))) .nil:=VC_of (((((4):Int)=(4))∧(((((0):Int)=(0))∧True)∧(((((1):Int)=(1))∧True)∧(((((4):Int)=(4))∧True)∧(((((5):Int)=(5))∧True)∧True))))))
theorem bi52  : VC (runDH Tryz.prog noExt 900 44 (enc [.one (.i .i64 52)] 0) 0 (fun v H=>rowE 0 H v 3 1 (biF 52))) .nil:=VC_of (((((3):Int)=(3))∧(((((2):Int)=(2))∧True)∧(((((4):Int)=(4))∧True)∧(((((5):Int)=(5))∧True)∧True)))))
theorem bi53  : VC (runDH Tryz.prog noExt 900 44 (enc [.one (.i .i64 53)] 0) 0 (fun v H=>rowE 0 H v 4 1 (biF 53))) .nil:=VC_of (((((4):Int)=(4))∧(((((0):Int)=(0))∧True)∧(((((2):Int)=(2))∧True)∧(((((4):Int)=(4))∧True)∧(((((5):Int)=(5))∧True)∧True))))))
theorem bi54  : VC (runDH Tryz.prog noExt 900 44 (enc [.one (.i .i64 54)] 0) 0 (fun v H=>rowE 0 H v 4 1 (biF 54))) .nil:=VC_of (((((4):Int)=(4))∧(((((1):Int)=(1))∧True)∧(((((2):Int)=(2))∧True)∧(((((4):Int)=(4))∧True)∧(((((5):Int)=(5))∧True)∧True))))))
theorem bi55  : VC (runDH Tryz.prog noExt 900 44 (enc [.one (.i .i64 55)] 0) 0 (fun v H=>rowE 0 H v 5 1 (biF 55))) .nil:=VC_of (((((5):Int)=(5))∧(((((0):Int)=(0))∧True)∧(((((1):Int)=(1))∧True)∧(((((2):Int)=(2))∧True)∧(((((4):Int)=(4))∧True)∧(((((5):Int)=(5))∧True)∧True)))))))
theorem bi56  : VC (runDH Tryz.prog noExt 900 44 (enc [.one (.i .i64 56)] 0) 0 (fun v H=>rowE 0 H v 3 1 (biF 56))) .nil:=VC_of (((((3):Int)=(3))∧(((((3):Int)=(3))∧True)∧(((((4):Int)=(4))∧True)∧(((((5):Int)=(5))∧True)∧True)))))
theorem bi57  : VC (runDH Tryz.prog noExt 900 44 (enc [.one (.i .i64 57)] 0) 0 (fun v H=>rowE 0 H v 4 1 (biF 57))) .nil:=VC_of (((((4):Int)=(4))∧(((((0):Int)=(0))∧True)∧(((((3):Int)=(3))∧True)∧(((((4):Int)=(4))∧True)∧(((((5):Int)=(5))∧True)∧True))))))
theorem bi58  : VC (runDH Tryz.prog noExt 900 44 (enc [.one (.i .i64 58)] 0) 0 (fun v H=>rowE 0 H v 4 1 (biF 58))) .nil:=VC_of (((((4):Int)=(4))∧(((((1):Int)=(1))∧True)∧(((((3):Int)=(3))∧True)∧(((((4):Int)=(4))∧True)∧(((((5):Int)=(5))∧True)∧True))))))
theorem bi59  : VC (runDH Tryz.prog noExt 900 44 (enc [.one (.i .i64 59)] 0) 0 (fun v H=>rowE 0 H v 5 1 (biF 59))) .nil:=VC_of (((((5):Int)=(5))∧(((((0):Int)=(0))∧True)∧(((((1):Int)=(1))∧True)∧(((((3):Int)=(3))∧True)∧(((((4):Int)=(4))∧True)∧(((((5):Int)=(5))∧True)∧True)))))))
theorem bi60  : VC (runDH Tryz.prog noExt 900 44 (enc [.one (.i .i64 60)] 0) 0 (fun v H=>rowE 0 H v 4 1 (biF 60))) .nil:=VC_of (((((4):Int)=(4))∧(((((2):Int)=(2))∧True)∧(((((3):Int)=(3))∧True)∧(((((4):Int)=(4))∧True)∧(((((5):Int)=(5))∧True)∧True))))))
theorem bi61  : VC (runDH Tryz.prog noExt 900 44 (enc [.one (.i .i64 61)] 0) 0 (fun v H=>rowE 0 H v 5 1 (biF 61))) .nil:=VC_of (((((5):Int)=(5))∧(((((0):Int)=(0))∧True)∧(((((2):Int)=(2))∧True)∧(((((3):Int)=(3))∧True)∧(((((4):Int)=(4))∧True)∧(((((5):Int)=(5))∧True)∧True)))))))
theorem bi62  : VC (runDH Tryz.prog noExt 900 44 (enc [.one (.i .i64 62)] 0) 0 (fun v H=>rowE 0 H v 5 1 (biF 62))) .nil:=VC_of (((((5):Int)=(5))∧(((((1):Int)=(1))∧True)∧(((((2):Int)=(2))∧True)∧(((((3):Int)=(3))∧True)∧(((((4):Int)=(4))∧True)∧(((((5):Int)=(5))∧True)∧True)))))))
theorem bi63  : VC (runDH Tryz.prog noExt 900 44 (enc [.one (.i .i64 63)] 0) 0 (fun v H=>rowE 0 H v 6 1 (biF 63))) .nil:=VC_of (((((6):Int)=(6))∧(((((0):Int)=(0))∧True)∧(((((1):Int)=(1))∧True)∧(((((2):Int)=(2))∧True)∧(((((3):Int)=(3))∧True)∧(((((4):Int)=(4))∧True)∧(((((5):Int)=(5))∧True)∧True))))))))
def valBi:Val:=fun das=>match das with | [.one (.i .i64 b)]=>some (cond (iLe 0 b) (iLe b 63) false,.fz true 0 (cellsI .i64 (biF b)) (biN b) 1) | _=>none
theorem conBi:ConN Tryz.prog 44 valBi:=by
  intro das v hv
  unfold valBi at hv
  split at hv
  · rename_i b
    have hb:=congrArg Prod.fst (Option.some.inj hv)
    have hv:=congrArg Prod.snd (Option.some.inj hv)
    subst hv
    obtain ⟨h1,h2⟩:=cond_tt hb
    rw [iLe_t] at h1 h2
    have fin:∀ {c:Int} {m:Nat} {h:HT},biN c=m→VC (runDH Tryz.prog noExt 900 44 (enc [.one (.i .i64 c)] 0) 0 (fun v H=>rowE 0 H v m 1 (biF c))) h→∃ v' H',SpecCall Tryz.prog 44 (enc [.one (.i .i64 c)] 0) (heap0 1) v' H'∧∀ new,FnV H' 0 new v' (ageN new (.fz true 0 (cellsI .i64 (biF c)) (biN c) 1)):=fun e hvc=>by
      subst e
      obtain ⟨v',H',h1,h2⟩:=runDH_ok drawnC noExt_ok hvc
      exact ⟨v',H',h1,fun new => .one (.one (rowE_fn h2 new))⟩
    obtain ⟨k,rfl⟩:∃ k:Nat,b=Int.ofNat k:=⟨Int.toNat b,by have:(Int.toNat b:Int)=b:=Int.toNat_of_nonneg h1;exact this.symm⟩
    have hk:k<64:=by have h2:(k:Int)≤63:=h2;omega
    match k,hk with
    | 0,_=>exact fin rfl bi0
    | 1,_=>exact fin rfl bi1
    | 2,_=>exact fin rfl bi2
    | 3,_=>exact fin rfl bi3
    | 4,_=>exact fin rfl bi4
    | 5,_=>exact fin rfl bi5
    | 6,_=>exact fin rfl bi6
    | 7,_=>exact fin rfl bi7
    | 8,_=>exact fin rfl bi8
    | 9,_=>exact fin rfl bi9
    | 10,_=>exact fin rfl bi10
    | 11,_=>exact fin rfl bi11
    | 12,_=>exact fin rfl bi12
    | 13,_=>exact fin rfl bi13
    | 14,_=>exact fin rfl bi14
    | 15,_=>exact fin rfl bi15
    | 16,_=>exact fin rfl bi16
    | 17,_=>exact fin rfl bi17
    | 18,_=>exact fin rfl bi18
    | 19,_=>exact fin rfl bi19
    | 20,_=>exact fin rfl bi20
    | 21,_=>exact fin rfl bi21
    | 22,_=>exact fin rfl bi22
    | 23,_=>exact fin rfl bi23
    | 24,_=>exact fin rfl bi24
    | 25,_=>exact fin rfl bi25
    | 26,_=>exact fin rfl bi26
    | 27,_=>exact fin rfl bi27
    | 28,_=>exact fin rfl bi28
    | 29,_=>exact fin rfl bi29
    | 30,_=>exact fin rfl bi30
    | 31,_=>exact fin rfl bi31
    | 32,_=>exact fin rfl bi32
    | 33,_=>exact fin rfl bi33
    | 34,_=>exact fin rfl bi34
    | 35,_=>exact fin rfl bi35
    | 36,_=>exact fin rfl bi36
    | 37,_=>exact fin rfl bi37
    | 38,_=>exact fin rfl bi38
    | 39,_=>exact fin rfl bi39
    | 40,_=>exact fin rfl bi40
    | 41,_=>exact fin rfl bi41
    | 42,_=>exact fin rfl bi42
    | 43,_=>exact fin rfl bi43
    | 44,_=>exact fin rfl bi44
    | 45,_=>exact fin rfl bi45
    | 46,_=>exact fin rfl bi46
    | 47,_=>exact fin rfl bi47
    | 48,_=>exact fin rfl bi48
    | 49,_=>exact fin rfl bi49
    | 50,_=>exact fin rfl bi50
    | 51,_=>exact fin rfl bi51
    | 52,_=>exact fin rfl bi52
    | 53,_=>exact fin rfl bi53
    | 54,_=>exact fin rfl bi54
    | 55,_=>exact fin rfl bi55
    | 56,_=>exact fin rfl bi56
    | 57,_=>exact fin rfl bi57
    | 58,_=>exact fin rfl bi58
    | 59,_=>exact fin rfl bi59
    | 60,_=>exact fin rfl bi60
    | 61,_=>exact fin rfl bi61
    | 62,_=>exact fin rfl bi62
    | 63,_=>exact fin rfl bi63
  · cases hv
def soM (nc:Nat) (b:Int):Int:=Int.tmod b (Int.ofNat (Nat.pow 2 nc))
def soF (nc:Nat) (b:Int) (i j:Nat):Int:=cond (Nat.beq (biN (soM nc b)) 0) (Int.tmod b (Int.ofNat nc)) (biF (soM nc b) i j)
def soN (nc:Nat) (b:Int):Nat:=cond (Nat.beq (biN (soM nc b)) 0) 1 (biN (soM nc b))
def XSo:Ext:=conX [(44,cfN valBi)] false
theorem XSo_ok:ExtOK Tryz.prog XSo:=conX_ok (allCon_cons (con_okN conBi) allCon_nil)
theorem soz1 (r:Int) (fc:Nat→Nat→Int) (b:Int) (h:0≤b∧b≤255) (q:0≤Int.tmod b 2∧Int.tmod b 2≤63) (q2:0≤Int.tmod b 1∧Int.tmod b 1≤63) (z:biN (Int.tmod b 2)=0):VC (runDH Tryz.prog XSo 900 18 (enc [.st [.sl 1 lw fw,.sl 1 lm fm,.rr 1 n ls f,.i .i64 r,.sl 5 1 fc],.one (.i .u8 b)] 0) 4 (fun v H=>rowE 4 H v 1 1 (fun _ _=>Int.tmod b 1))) (.go 1361 .nil):=VC_of (((small b)=true∧((cond true (cond (iLe (0) (Int.tmod b (2))) (iLe (Int.tmod b (2)) (63)) false) false)=true∧((iEq (((BL.biN (Int.tmod b (2))):Nat):Int) (0))=true∧((small b)=true∧((((1):Int)=(1))∧(((((Int.tmod b (1)):Int)=(Int.tmod b (1)))∧True)∧True)))))))
theorem son1 (r:Int) (fc:Nat→Nat→Int) (b:Int) (h:0≤b∧b≤255) (q:0≤Int.tmod b 2∧Int.tmod b 2≤63) (z:¬ biN (Int.tmod b 2)=0) (z2:biN (Int.tmod b 2)≤6):VC (runDH Tryz.prog XSo 900 18 (enc [.st [.sl 1 lw fw,.sl 1 lm fm,.rr 1 n ls f,.i .i64 r,.sl 5 1 fc],.one (.i .u8 b)] 0) 4 (fun v H=>rowE 4 H v (biN (Int.tmod b 2)) 1 (biF (Int.tmod b 2)))) (.go 401 .nil):=VC_of (((small b)=true∧((cond true (cond (iLe (0) (Int.tmod b (2))) (iLe (Int.tmod b (2)) (63)) false) false)=true∧((iEq (((BL.biN (Int.tmod b (2))):Nat):Int) (0))=false∧(((V.fz true 6 (cellsI .i64 (fun (ii jj:Nat)=>(BL.biF (Int.tmod b (2)) ii jj))) (BL.biN (Int.tmod b (2))) 1):V)=(V.fz true 6 (cellsI .i64 (fun (ii jj:Nat)=>(BL.biF (Int.tmod b (2)) ii jj))) (BL.biN (Int.tmod b (2))) 1))))))
theorem soz2 (r:Int) (fc:Nat→Nat→Int) (b:Int) (h:0≤b∧b≤255) (q:0≤Int.tmod b 4∧Int.tmod b 4≤63) (q2:0≤Int.tmod b 2∧Int.tmod b 2≤63) (z:biN (Int.tmod b 4)=0):VC (runDH Tryz.prog XSo 900 18 (enc [.st [.sl 1 lw fw,.sl 1 lm fm,.rr 1 n ls f,.i .i64 r,.sl 5 2 fc],.one (.i .u8 b)] 0) 4 (fun v H=>rowE 4 H v 1 1 (fun _ _=>Int.tmod b 2))) (.go 1361 .nil):=VC_of (((small b)=true∧((cond true (cond (iLe (0) (Int.tmod b (4))) (iLe (Int.tmod b (4)) (63)) false) false)=true∧((iEq (((BL.biN (Int.tmod b (4))):Nat):Int) (0))=true∧((small b)=true∧((((1):Int)=(1))∧(((((Int.tmod b (2)):Int)=(Int.tmod b (2)))∧True)∧True)))))))
theorem son2 (r:Int) (fc:Nat→Nat→Int) (b:Int) (h:0≤b∧b≤255) (q:0≤Int.tmod b 4∧Int.tmod b 4≤63) (z:¬ biN (Int.tmod b 4)=0) (z2:biN (Int.tmod b 4)≤6):VC (runDH Tryz.prog XSo 900 18 (enc [.st [.sl 1 lw fw,.sl 1 lm fm,.rr 1 n ls f,.i .i64 r,.sl 5 2 fc],.one (.i .u8 b)] 0) 4 (fun v H=>rowE 4 H v (biN (Int.tmod b 4)) 1 (biF (Int.tmod b 4)))) (.go 401 .nil):=VC_of (((small b)=true∧((cond true (cond (iLe (0) (Int.tmod b (4))) (iLe (Int.tmod b (4)) (63)) false) false)=true∧((iEq (((BL.biN (Int.tmod b (4))):Nat):Int) (0))=false∧(((V.fz true 6 (cellsI .i64 (fun (ii jj:Nat)=>(BL.biF (Int.tmod b (4)) ii jj))) (BL.biN (Int.tmod b (4))) 1):V)=(V.fz true 6 (cellsI .i64 (fun (ii jj:Nat)=>(BL.biF (Int.tmod b (4)) ii jj))) (BL.biN (Int.tmod b (4))) 1))))))
theorem soz3 (r:Int) (fc:Nat→Nat→Int) (b:Int) (h:0≤b∧b≤255) (q:0≤Int.tmod b 8∧Int.tmod b 8≤63) (q2:0≤Int.tmod b 3∧Int.tmod b 3≤63) (z:biN (Int.tmod b 8)=0):VC (runDH Tryz.prog XSo 900 18 (enc [.st [.sl 1 lw fw,.sl 1 lm fm,.rr 1 n ls f,.i .i64 r,.sl 5 3 fc],.one (.i .u8 b)] 0) 4 (fun v H=>rowE 4 H v 1 1 (fun _ _=>Int.tmod b 3))) (.go 1361 .nil):=VC_of (((small b)=true∧((cond true (cond (iLe (0) (Int.tmod b (8))) (iLe (Int.tmod b (8)) (63)) false) false)=true∧((iEq (((BL.biN (Int.tmod b (8))):Nat):Int) (0))=true∧((small b)=true∧((((1):Int)=(1))∧(((((Int.tmod b (3)):Int)=(Int.tmod b (3)))∧True)∧True)))))))
theorem son3 (r:Int) (fc:Nat→Nat→Int) (b:Int) (h:0≤b∧b≤255) (q:0≤Int.tmod b 8∧Int.tmod b 8≤63) (z:¬ biN (Int.tmod b 8)=0) (z2:biN (Int.tmod b 8)≤6):VC (runDH Tryz.prog XSo 900 18 (enc [.st [.sl 1 lw fw,.sl 1 lm fm,.rr 1 n ls f,.i .i64 r,.sl 5 3 fc],.one (.i .u8 b)] 0) 4 (fun v H=>rowE 4 H v (biN (Int.tmod b 8)) 1 (biF (Int.tmod b 8)))) (.go 401 .nil):=VC_of (((small b)=true∧((cond true (cond (iLe (0) (Int.tmod b (8))) (iLe (Int.tmod b (8)) (63)) false) false)=true∧((iEq (((BL.biN (Int.tmod b (8))):Nat):Int) (0))=false∧(((V.fz true 6 (cellsI .i64 (fun (ii jj:Nat)=>(BL.biF (Int.tmod b (8)) ii jj))) (BL.biN (Int.tmod b (8))) 1):V)=(V.fz true 6 (cellsI .i64 (fun (ii jj:Nat)=>(BL.biF (Int.tmod b (8)) ii jj))) (BL.biN (Int.tmod b (8))) 1))))))
theorem soz4 (r:Int) (fc:Nat→Nat→Int) (b:Int) (h:0≤b∧b≤255) (q:0≤Int.tmod b 16∧Int.tmod b 16≤63) (q2:0≤Int.tmod b 4∧Int.tmod b 4≤63) (z:biN (Int.tmod b 16)=0):VC (runDH Tryz.prog XSo 900 18 (enc [.st [.sl 1 lw fw,.sl 1 lm fm,.rr 1 n ls f,.i .i64 r,.sl 5 4 fc],.one (.i .u8 b)] 0) 4 (fun v H=>rowE 4 H v 1 1 (fun _ _=>Int.tmod b 4))) (.go 1361 .nil):=VC_of (((small b)=true∧((cond true (cond (iLe (0) (Int.tmod b (16))) (iLe (Int.tmod b (16)) (63)) false) false)=true∧((iEq (((BL.biN (Int.tmod b (16))):Nat):Int) (0))=true∧((small b)=true∧((((1):Int)=(1))∧(((((Int.tmod b (4)):Int)=(Int.tmod b (4)))∧True)∧True)))))))
theorem son4 (r:Int) (fc:Nat→Nat→Int) (b:Int) (h:0≤b∧b≤255) (q:0≤Int.tmod b 16∧Int.tmod b 16≤63) (z:¬ biN (Int.tmod b 16)=0) (z2:biN (Int.tmod b 16)≤6):VC (runDH Tryz.prog XSo 900 18 (enc [.st [.sl 1 lw fw,.sl 1 lm fm,.rr 1 n ls f,.i .i64 r,.sl 5 4 fc],.one (.i .u8 b)] 0) 4 (fun v H=>rowE 4 H v (biN (Int.tmod b 16)) 1 (biF (Int.tmod b 16)))) (.go 401 .nil):=VC_of (((small b)=true∧((cond true (cond (iLe (0) (Int.tmod b (16))) (iLe (Int.tmod b (16)) (63)) false) false)=true∧((iEq (((BL.biN (Int.tmod b (16))):Nat):Int) (0))=false∧(((V.fz true 6 (cellsI .i64 (fun (ii jj:Nat)=>(BL.biF (Int.tmod b (16)) ii jj))) (BL.biN (Int.tmod b (16))) 1):V)=(V.fz true 6 (cellsI .i64 (fun (ii jj:Nat)=>(BL.biF (Int.tmod b (16)) ii jj))) (BL.biN (Int.tmod b (16))) 1))))))
theorem soz5 (r:Int) (fc:Nat→Nat→Int) (b:Int) (h:0≤b∧b≤255) (q:0≤Int.tmod b 32∧Int.tmod b 32≤63) (q2:0≤Int.tmod b 5∧Int.tmod b 5≤63) (z:biN (Int.tmod b 32)=0):VC (runDH Tryz.prog XSo 900 18 (enc [.st [.sl 1 lw fw,.sl 1 lm fm,.rr 1 n ls f,.i .i64 r,.sl 5 5 fc],.one (.i .u8 b)] 0) 4 (fun v H=>rowE 4 H v 1 1 (fun _ _=>Int.tmod b 5))) (.go 1361 .nil):=VC_of (((small b)=true∧((cond true (cond (iLe (0) (Int.tmod b (32))) (iLe (Int.tmod b (32)) (63)) false) false)=true∧((iEq (((BL.biN (Int.tmod b (32))):Nat):Int) (0))=true∧((small b)=true∧((((1):Int)=(1))∧(((((Int.tmod b (5)):Int)=(Int.tmod b (5)))∧True)∧True)))))))
theorem son5 (r:Int) (fc:Nat→Nat→Int) (b:Int) (h:0≤b∧b≤255) (q:0≤Int.tmod b 32∧Int.tmod b 32≤63) (z:¬ biN (Int.tmod b 32)=0) (z2:biN (Int.tmod b 32)≤6):VC (runDH Tryz.prog XSo 900 18 (enc [.st [.sl 1 lw fw,.sl 1 lm fm,.rr 1 n ls f,.i .i64 r,.sl 5 5 fc],.one (.i .u8 b)] 0) 4 (fun v H=>rowE 4 H v (biN (Int.tmod b 32)) 1 (biF (Int.tmod b 32)))) (.go 401 .nil):=VC_of (((small b)=true∧((cond true (cond (iLe (0) (Int.tmod b (32))) (iLe (Int.tmod b (32)) (63)) false) false)=true∧((iEq (((BL.biN (Int.tmod b (32))):Nat):Int) (0))=false∧(((V.fz true 6 (cellsI .i64 (fun (ii jj:Nat)=>(BL.biF (Int.tmod b (32)) ii jj))) (BL.biN (Int.tmod b (32))) 1):V)=(V.fz true 6 (cellsI .i64 (fun (ii jj:Nat)=>(BL.biF (Int.tmod b (32)) ii jj))) (BL.biN (Int.tmod b (32))) 1))))))
theorem soz6 (r:Int) (fc:Nat→Nat→Int) (b:Int) (h:0≤b∧b≤255) (q:0≤Int.tmod b 64∧Int.tmod b 64≤63) (q2:0≤Int.tmod b 6∧Int.tmod b 6≤63) (z:biN (Int.tmod b 64)=0):VC (runDH Tryz.prog XSo 900 18 (enc [.st [.sl 1 lw fw,.sl 1 lm fm,.rr 1 n ls f,.i .i64 r,.sl 5 6 fc],.one (.i .u8 b)] 0) 4 (fun v H=>rowE 4 H v 1 1 (fun _ _=>Int.tmod b 6))) (.go 1361 .nil):=VC_of (((small b)=true∧((cond true (cond (iLe (0) (Int.tmod b (64))) (iLe (Int.tmod b (64)) (63)) false) false)=true∧((iEq (((BL.biN (Int.tmod b (64))):Nat):Int) (0))=true∧((small b)=true∧((((1):Int)=(1))∧(((((Int.tmod b (6)):Int)=(Int.tmod b (6)))∧True)∧True)))))))
theorem son6 (r:Int) (fc:Nat→Nat→Int) (b:Int) (h:0≤b∧b≤255) (q:0≤Int.tmod b 64∧Int.tmod b 64≤63) (z:¬ biN (Int.tmod b 64)=0) (z2:biN (Int.tmod b 64)≤6):VC (runDH Tryz.prog XSo 900 18 (enc [.st [.sl 1 lw fw,.sl 1 lm fm,.rr 1 n ls f,.i .i64 r,.sl 5 6 fc],.one (.i .u8 b)] 0) 4 (fun v H=>rowE 4 H v (biN (Int.tmod b 64)) 1 (biF (Int.tmod b 64)))) (.go 401 .nil):=VC_of (((small b)=true∧((cond true (cond (iLe (0) (Int.tmod b (64))) (iLe (Int.tmod b (64)) (63)) false) false)=true∧((iEq (((BL.biN (Int.tmod b (64))):Nat):Int) (0))=false∧(((V.fz true 6 (cellsI .i64 (fun (ii jj:Nat)=>(BL.biF (Int.tmod b (64)) ii jj))) (BL.biN (Int.tmod b (64))) 1):V)=(V.fz true 6 (cellsI .i64 (fun (ii jj:Nat)=>(BL.biF (Int.tmod b (64)) ii jj))) (BL.biN (Int.tmod b (64))) 1))))))
def valSo:Val:=fun das=>match das with | [.st [.sl 1 lw fw,.sl 1 lm fm,.rr 1 n ls f,.i .i64 r,.sl 5 nc fc],.one (.i .u8 b)]=>some (cond (Nat.ble 1 nc) (cond (Nat.ble nc 6) (cond (iLe 0 b) (iLe b 255) false) false) false,.fz true 0 (cellsI .i64 (soF nc b)) (soN nc b) 1) | _=>none
theorem so_z {nc:Nat} {b:Int} (z:biN (soM nc b)=0):soN nc b=1∧soF nc b=fun _ _=>Int.tmod b (Int.ofNat nc):=by
  constructor
  · unfold soN;rw [z];rfl
  · funext i j;unfold soF;rw [z];rfl
theorem so_n {nc:Nat} {b:Int} (z:¬ biN (soM nc b)=0):soN nc b=biN (soM nc b)∧soF nc b=biF (soM nc b):=by
  have e:Nat.beq (biN (soM nc b)) 0=false:=(beq_f _ _).mpr z
  constructor
  · unfold soN;rw [e];rfl
  · funext i j;unfold soF;rw [e];rfl
theorem biA_len (n i:Nat) (l:List Int):lenI (biA n i l)≤lenI l+1:=by
  unfold biA
  cases Nat.beq (Nat.mod (Nat.div n (Nat.pow 2 i)) 2) 1 with
  | true=>exact Nat.le_refl _
  | false=>exact Nat.le_succ _
theorem biN_le (b:Int):biN b≤6:=by
  unfold biN biL
  have h0:lenI []=0:=rfl
  have h5:=biA_len (Int.toNat b) 5 []
  have h4:=biA_len (Int.toNat b) 4 (biA (Int.toNat b) 5 [])
  have h3:=biA_len (Int.toNat b) 3 (biA (Int.toNat b) 4 (biA (Int.toNat b) 5 []))
  have h2:=biA_len (Int.toNat b) 2 (biA (Int.toNat b) 3 (biA (Int.toNat b) 4 (biA (Int.toNat b) 5 [])))
  have h1:=biA_len (Int.toNat b) 1 (biA (Int.toNat b) 2 (biA (Int.toNat b) 3 (biA (Int.toNat b) 4 (biA (Int.toNat b) 5 []))))
  have h:=biA_len (Int.toNat b) 0 (biA (Int.toNat b) 1 (biA (Int.toNat b) 2 (biA (Int.toNat b) 3 (biA (Int.toNat b) 4 (biA (Int.toNat b) 5 [])))))
  omega
theorem tm_bd {b p:Int} (h:0≤b) (hp:0<p):0≤Int.tmod b p∧Int.tmod b p<p:=by
  rw [Int.tmod_eq_emod_of_nonneg h]
  exact ⟨Int.emod_nonneg _ (by omega),Int.emod_lt_of_pos _ hp⟩
theorem conSo:ConN Tryz.prog 18 valSo:=by
  intro das v hv
  unfold valSo at hv
  split at hv
  · rename_i lw fw lm fm n ls f r nc fc b
    have hb:=congrArg Prod.fst (Option.some.inj hv)
    have hv:=congrArg Prod.snd (Option.some.inj hv)
    subst hv
    obtain ⟨h1,hb⟩:=cond_tt hb
    obtain ⟨h2,hb⟩:=cond_tt hb
    obtain ⟨h3,h4⟩:=cond_tt hb
    have h1:=Nat.le_of_ble_eq_true h1
    have h2:=Nat.le_of_ble_eq_true h2
    rw [iLe_t] at h3 h4
    have hn:nc=1∨nc=2∨nc=3∨nc=4∨nc=5∨nc=6:=by omega
    rcases hn with rfl | rfl | rfl | rfl | rfl | rfl
    · have q:=tm_bd (p:=2) h3 (by decide)
      have q2:=tm_bd (p:=1) h3 (by decide)
      by_cases z:biN (soM 1 b)=0
      · obtain ⟨e1,e2⟩:=so_z z
        rw [e1,e2]
        obtain ⟨v',H',g1,g2⟩:=runDH_ok drawnC XSo_ok (soz1 lw fw lm fm n ls f r fc b ⟨h3,h4⟩ (by omega) (by omega) z)
        exact ⟨v',H',g1,fun new => .one (.one (rowE_fn g2 new))⟩
      · obtain ⟨e1,e2⟩:=so_n z
        rw [e1,e2]
        obtain ⟨v',H',g1,g2⟩:=runDH_ok drawnC XSo_ok (son1 lw fw lm fm n ls f r fc b ⟨h3,h4⟩ (by omega) z (biN_le _))
        exact ⟨v',H',g1,fun new => .one (.one (rowE_fn g2 new))⟩
    · have q:=tm_bd (p:=4) h3 (by decide)
      have q2:=tm_bd (p:=2) h3 (by decide)
      by_cases z:biN (soM 2 b)=0
      · obtain ⟨e1,e2⟩:=so_z z
        rw [e1,e2]
        obtain ⟨v',H',g1,g2⟩:=runDH_ok drawnC XSo_ok (soz2 lw fw lm fm n ls f r fc b ⟨h3,h4⟩ (by omega) (by omega) z)
        exact ⟨v',H',g1,fun new => .one (.one (rowE_fn g2 new))⟩
      · obtain ⟨e1,e2⟩:=so_n z
        rw [e1,e2]
        obtain ⟨v',H',g1,g2⟩:=runDH_ok drawnC XSo_ok (son2 lw fw lm fm n ls f r fc b ⟨h3,h4⟩ (by omega) z (biN_le _))
        exact ⟨v',H',g1,fun new => .one (.one (rowE_fn g2 new))⟩
    · have q:=tm_bd (p:=8) h3 (by decide)
      have q2:=tm_bd (p:=3) h3 (by decide)
      by_cases z:biN (soM 3 b)=0
      · obtain ⟨e1,e2⟩:=so_z z
        rw [e1,e2]
        obtain ⟨v',H',g1,g2⟩:=runDH_ok drawnC XSo_ok (soz3 lw fw lm fm n ls f r fc b ⟨h3,h4⟩ (by omega) (by omega) z)
        exact ⟨v',H',g1,fun new => .one (.one (rowE_fn g2 new))⟩
      · obtain ⟨e1,e2⟩:=so_n z
        rw [e1,e2]
        obtain ⟨v',H',g1,g2⟩:=runDH_ok drawnC XSo_ok (son3 lw fw lm fm n ls f r fc b ⟨h3,h4⟩ (by omega) z (biN_le _))
        exact ⟨v',H',g1,fun new => .one (.one (rowE_fn g2 new))⟩
    · have q:=tm_bd (p:=16) h3 (by decide)
      have q2:=tm_bd (p:=4) h3 (by decide)
      by_cases z:biN (soM 4 b)=0
      · obtain ⟨e1,e2⟩:=so_z z
        rw [e1,e2]
        obtain ⟨v',H',g1,g2⟩:=runDH_ok drawnC XSo_ok (soz4 lw fw lm fm n ls f r fc b ⟨h3,h4⟩ (by omega) (by omega) z)
        exact ⟨v',H',g1,fun new => .one (.one (rowE_fn g2 new))⟩
      · obtain ⟨e1,e2⟩:=so_n z
        rw [e1,e2]
        obtain ⟨v',H',g1,g2⟩:=runDH_ok drawnC XSo_ok (son4 lw fw lm fm n ls f r fc b ⟨h3,h4⟩ (by omega) z (biN_le _))
        exact ⟨v',H',g1,fun new => .one (.one (rowE_fn g2 new))⟩
    · have q:=tm_bd (p:=32) h3 (by decide)
      have q2:=tm_bd (p:=5) h3 (by decide)
      by_cases z:biN (soM 5 b)=0
      · obtain ⟨e1,e2⟩:=so_z z
        rw [e1,e2]
        obtain ⟨v',H',g1,g2⟩:=runDH_ok drawnC XSo_ok (soz5 lw fw lm fm n ls f r fc b ⟨h3,h4⟩ (by omega) (by omega) z)
        exact ⟨v',H',g1,fun new => .one (.one (rowE_fn g2 new))⟩
      · obtain ⟨e1,e2⟩:=so_n z
        rw [e1,e2]
        obtain ⟨v',H',g1,g2⟩:=runDH_ok drawnC XSo_ok (son5 lw fw lm fm n ls f r fc b ⟨h3,h4⟩ (by omega) z (biN_le _))
        exact ⟨v',H',g1,fun new => .one (.one (rowE_fn g2 new))⟩
    · have q:=tm_bd (p:=64) h3 (by decide)
      have q2:=tm_bd (p:=6) h3 (by decide)
      by_cases z:biN (soM 6 b)=0
      · obtain ⟨e1,e2⟩:=so_z z
        rw [e1,e2]
        obtain ⟨v',H',g1,g2⟩:=runDH_ok drawnC XSo_ok (soz6 lw fw lm fm n ls f r fc b ⟨h3,h4⟩ (by omega) (by omega) z)
        exact ⟨v',H',g1,fun new => .one (.one (rowE_fn g2 new))⟩
      · obtain ⟨e1,e2⟩:=so_n z
        rw [e1,e2]
        obtain ⟨v',H',g1,g2⟩:=runDH_ok drawnC XSo_ok (son6 lw fw lm fm n ls f r fc b ⟨h3,h4⟩ (by omega) z (biN_le _))
        exact ⟨v',H',g1,fun new => .one (.one (rowE_fn g2 new))⟩
  · cases hv
end
end BL
end Go.Proofs.YtclagbonpachfaaGreat
