/- Casks: contracts: Thin. -/
import Derived.Test.YtflblednifbleaaYCaR3
set_option linter.all false
set_option linter.unusedSimpArgs false
set_option linter.unusedVariables false
namespace Go.Proofs.Ytflblednifbleaa
open Go Go.Ev
set_option maxRecDepth 1000000
set_option maxHeartbeats 0
noncomputable section
variable (nc:Nat) (fi:Nat→Nat→Int) (fb:Nat→Nat→Bool) (ls:Nat→Nat→Nat) (fr:Nat→Nat→Nat→Nat→Int) (nm:Nat) (fm:Nat→Nat→Int) (ng:Nat) (gi:Nat→Nat→Int) (gb:Nat→Nat→Bool) (gl:Nat→Nat→Nat) (gr:Nat→Nat→Nat→Nat→Int)
def mnN (nc:Nat):Nat:=cond (Nat.ble nc 6) nc 6
def dU (nc:Nat) (l:Nat→Nat) (nm ng:Nat):Bool:=cond (dP (fun i=>Nat.ble (l i) 8) (mnN nc)) (cond (Nat.ble nc 5) (cond (Nat.ble nm 7) (Nat.ble ng 9) false) false) false
def bfT:Code:=sub [1,0,1,0,0] (dV Try.prog 5)
theorem te0:VC (xn Try.prog aA 300 5 [1,0,1,0] [.st [.rw [.r 2,.i,.i,.i,.i] nc fi fb ls fr,.sl 4 nm fm,.rw [.i,.i,.i,.i,.b] ng gi gb gl gr]] (baA nc fi fb ls fr nm fm ng gi gb gl gr) ww 39 60 (gX 0)) .nil:=ay (((True∧(True∧(True∧((((((V.fz true 0 (ah 0 [.r 2,.i,.i,.i,.i] fi fb ls fr) nc 5):V)=(V.fz true 0 (ah 0 [.r 2,.i,.i,.i,.i] fi fb ls fr) nc 5))∧(((((V.fz true 1 (ae .i64 fm) nm 4):V)=(V.fz true 1 (ae .i64 fm) nm 4))∧(True∧True))∧((((V.fz true 2 (ah 2 [.i,.i,.i,.i,.b] gi gb gl gr) ng 5):V)=(V.fz true 2 (ah 2 [.i,.i,.i,.i,.b] gi gb gl gr) ng 5))∧(True∧True))))∧(True∧True))∧True))))∧(((((V.ptr 4 0):V)=(V.ptr 4 0))∧((((0):Int)=0)∧True))∧True)))
theorem te1 (k:Nat) (h1:k<nc) (h2:k<6) (h3:ls k 0≤8):VC (aT Try.prog aA 300 bfT (baA nc fi fb ls fr nm fm ng gi gb gl gr) ww 39 60 (gX k) (.next (gX (k+1)))) (.go 22849 .nil):=ay (((not (ai (nc:Int) (k:Int)))=true∧((not (ai 6 (k:Int)))=true∧((Nat.blt k nc)=true∧((not (ai (((ls k 0):Nat):Int) 8))=false∧((small ((k:Int)+1))=true∧(((((V.ptr 4 0):V)=(V.ptr 4 0))∧(((((k:Int)+1):Int)=(((k+1):Nat):Int))∧True))∧True)))))))
theorem te2 (k:Nat) (h1:k<nc) (h2:k<6) (h3:¬ ls k 0≤8):VC (aT Try.prog aA 300 bfT (baA nc fi fb ls fr nm fm ng gi gb gl gr) ww 39 60 (gX k) (.ret ⟨[.bool false],[]⟩)) (.go 5441 .nil):=ay (((not (ai (nc:Int) (k:Int)))=true∧((not (ai 6 (k:Int)))=true∧((Nat.blt k nc)=true∧((not (ai (((ls k 0):Nat):Int) 8))=true∧(((false=false)∧True)∧True))))))
theorem te3 (k:Nat) (h1:¬ (k<nc∧k<6)):VC (aT Try.prog aA 300 bfT (baA nc fi fb ls fr nm fm ng gi gb gl gr) ww 39 60 (gX k) (uy 0)) (.sp (.go 96 .nil) .nil):=ay ((((not (ai (nc:Int) (k:Int)))=true→((not (ai 6 (k:Int)))=false∧(((((V.ptr 4 0):V)=(V.ptr 4 0))∧True)∧True))) ∧
 ((not (ai ((nc:Nat):Int) ((k:Nat):Int)))=false→(((((V.ptr 4 0):V)=(V.ptr 4 0))∧True)∧True))))
theorem tf1 (h:nc≤5∧nm≤7∧ng≤9):VC (fromD Try.prog aA 300 5 [1,0,1,0] (Lv.res ww 39 (fV (baA nc fi fb ls fr nm fm ng gi gb gl gr) ww 60 (uy 0)) (uy 0)) (.bool true)) (.go 5121 .nil):=ay (((ai (nc:Int) 5)=true∧((ai (nm:Int) 7)=true∧((ai (ng:Int) 9)=true))))
theorem tf2 (h:¬ (nc≤5∧nm≤7∧ng≤9)):VC (fromD Try.prog aA 300 5 [1,0,1,0] (Lv.res ww 39 (fV (baA nc fi fb ls fr nm fm ng gi gb gl gr) ww 60 (uy 0)) (uy 0)) (.bool false)) (.sp (.go 256 (.sp .nil .nil)) .nil):=ay ((((ai (nc:Int) 5)=true→(((ai (nm:Int) 7)=true→((ai (ng:Int) 9)=false)) ∧
 ((ai ((nm:Nat):Int) (7))=false→(false=false)))) ∧
 ((ai ((nc:Nat):Int) (5))=false→(false=false))))
theorem tf3:VC (fromD Try.prog aA 300 5 [1,0,1,0] (Lv.res ww 39 (fV (baA nc fi fb ls fr nm fm ng gi gb gl gr) ww 60 (.ret ⟨[.bool false],[]⟩)) (.ret ⟨[.bool false],[]⟩)) (.bool false)) .nil:=ay ((false=false))
def PU:Val:=fun das=>match das with | [.st [.rw [.r 2,.i,.i,.i,.i] nc fi fb ls fr,.sl 4 nm fm,.rw [.i,.i,.i,.i,.b] ng gi gb gl gr]]=>some (true,.bool (dU nc (fun i=>ls i 0) nm ng)) | _=>none
theorem QW (nc:Nat):mnN nc≤nc∧mnN nc≤6∧(mnN nc=nc∨mnN nc=6):=by
 unfold mnN
 cases q:Nat.ble nc 6 with
 | true=>have:=Nat.le_of_ble_eq_true q;exact ⟨Nat.le_refl _,this,.inl rfl⟩
 | false=>have:=(tZ _ _).mp q;exact ⟨show 6≤nc by omega,Nat.le_refl _,.inr rfl⟩
theorem Yf:zA Try.prog 5 PU:=by
 intro das v hv
 unfold PU at hv
 split at hv
 ·rename_i nc fi fb ls fr nm fm ng gi gb gl gr
  have hv:=congrArg Prod.snd (Option.some.inj hv)
  subst hv
  obtain ⟨m1,m2,m3⟩:=QW nc
  refine ⟨rfl,?_⟩
  show ∃ v' H',SpecCall _ _ _ _ v' H'∧bC v' (.bool (dU nc (fun i=>ls i 0) nm ng))
  rcases fZ (fun i=>Nat.ble ((fun i=>ls i 0) i) 8) (mnN nc) with h | ⟨N,h2,h3,h4⟩
  ·have j:=bF (body:=bfT) (lv:=uy 0) (fun _ e=>by cases e) (mnN nc) gX (fun k hk=>aI au aj (te1 nc fi fb ls fr nm fm ng gi gb gl gr k (by omega) (by omega) (Nat.le_of_ble_eq_true (h k hk))).ok (by kernel_rfl) (by kernel_rfl)) (aI au aj (te3 nc fi fb ls fr nm fm ng gi gb gl gr (mnN nc) (by omega)).ok (by kernel_rfl) (by kernel_rfl))
   by_cases q:nc≤5∧nm≤7∧ng≤9
   ·have e:dU nc (fun i=>ls i 0) nm ng=true:=bY (bu h) (bY (Nat.ble_eq_true_of_le q.1) (bY (Nat.ble_eq_true_of_le q.2.1) (Nat.ble_eq_true_of_le q.2.2)))
    rw [e]
    exact dn au aj (das:=[.st [.rw [.r 2,.i,.i,.i,.i] nc fi fb ls fr,.sl 4 nm fm,.rw [.i,.i,.i,.i,.b] ng gi gb gl gr]]) (lv:=uy 0) (by kernel_rfl) (by kernel_rfl) (te0 nc fi fb ls fr nm fm ng gi gb gl gr).ok j (tf1 nc fi fb ls fr nm fm ng gi gb gl gr q).ok
   ·have e:dU nc (fun i=>ls i 0) nm ng=false:=by
     cases z:dU nc (fun i=>ls i 0) nm ng with
     | false=>rfl
     | true =>
      obtain ⟨_,z⟩:=ax z
      obtain ⟨z1,z⟩:=ax z
      obtain ⟨z2,z3⟩:=ax z
      exact absurd ⟨Nat.le_of_ble_eq_true z1,Nat.le_of_ble_eq_true z2,Nat.le_of_ble_eq_true z3⟩ q
    rw [e]
    exact dn au aj (das:=[.st [.rw [.r 2,.i,.i,.i,.i] nc fi fb ls fr,.sl 4 nm fm,.rw [.i,.i,.i,.i,.b] ng gi gb gl gr]]) (lv:=uy 0) (by kernel_rfl) (by kernel_rfl) (te0 nc fi fb ls fr nm fm ng gi gb gl gr).ok j (tf2 nc fi fb ls fr nm fm ng gi gb gl gr q).ok
  ·have e:dU nc (fun i=>ls i 0) nm ng=false:=by unfold dU;rw [kS h2 h4];rfl
   rw [e]
   exact dn au aj (das:=[.st [.rw [.r 2,.i,.i,.i,.i] nc fi fb ls fr,.sl 4 nm fm,.rw [.i,.i,.i,.i,.b] ng gi gb gl gr]]) (lv:=(.ret ⟨[.bool false],[]⟩)) (by kernel_rfl) (by kernel_rfl) (te0 nc fi fb ls fr nm fm ng gi gb gl gr).ok (bF (body:=bfT) (fun _ e=>by cases e) N gX (fun k hk=>aI au aj (te1 nc fi fb ls fr nm fm ng gi gb gl gr k (by omega) (by omega) (Nat.le_of_ble_eq_true (h3 k hk))).ok (by kernel_rfl) (by kernel_rfl)) (aI au aj (te2 nc fi fb ls fr nm fm ng gi gb gl gr N (by omega) (by omega) (by have q:=(tZ _ _).mp h4;dsimp only at q;omega)).ok (by kernel_rfl) (by kernel_rfl))) (tf3 nc fi fb ls fr nm fm ng gi gb gl gr).ok
 ·cases hv
end
end Go.Proofs.Ytflblednifbleaa
