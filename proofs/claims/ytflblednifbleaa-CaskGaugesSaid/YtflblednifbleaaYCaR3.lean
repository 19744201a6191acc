/- Casks: contracts: the reference's Fault is the error of a cellar. -/
import Derived.Test.YtflblednifbleaaYCaR2
set_option linter.all false
set_option linter.unusedSimpArgs false
set_option linter.unusedVariables false
namespace Go.Proofs.Ytflblednifbleaa
open Go Go.Ev
set_option maxRecDepth 1000000
set_option maxHeartbeats 0
noncomputable section
variable (nc:Nat) (fi:Nat→Nat→Int) (fb:Nat→Nat→Bool) (ls:Nat→Nat→Nat) (fr:Nat→Nat→Nat→Nat→Int) (nm:Nat) (fm:Nat→Nat→Int) (ng:Nat) (gi:Nat→Nat→Int) (gb:Nat→Nat→Bool) (gl:Nat→Nat→Nat) (gr:Nat→Nat→Nat→Nat→Int)
theorem fl0 (b1:nc≤1000) (b2:nm≤1000) (b3:ng≤1000) (h:¬ (nc≤3∧nm≤4∧ng≤6)):VC (bi Try.prog aA 600 39 (enc [.st [.rw [.r 2,.i,.i,.i,.i] nc fi fb ls fr,.sl 4 nm fm,.rw [.i,.i,.i,.i,.b] ng gi gb gl gr]] 0) 3 (fun v=>bC v (.int .i64 3))) (.sp .nil (.go 256 (.sp .nil (.go 1280 .nil)))):=ay ((((not (ai (nc:Int) 3))=true→(((3):Int)=3)) ∧
 ((not (ai ((nc:Nat):Int) (3)))=false→(((not (ai ((nm:Nat):Int) (4)))=true→(((3):Int)=(3))) ∧
 ((not (ai ((nm:Nat):Int) (4)))=false→((not (ai ((ng:Nat):Int) (6)))=true∧(((3):Int)=(3))))))))
theorem fa9 (h1:nc≤3) (h2:nm≤4) (h3:ng≤6):VC (eF Try.prog kD aA (.leaf False) 900 none [1,1,0,1,0] cFb ⟨gJ false (enc [.st [.rw [.r 2,.i,.i,.i,.i] nc fi fb ls fr,.sl 4 nm fm,.rw [.i,.i,.i,.i,.b] ng gi gb gl gr]] 0),uA Try.prog 39,[]⟩ (aY 4) (fun a H => .leaf (Eg (baA nc fi fb ls fr nm fm ng gi gb gl gr) ww 218 200 (gX 0) a H))) (.go 6293506 .nil):=ay (((not (ai (nc:Int) 3))=false∧((not (ai (nm:Int) 4))=false∧((not (ai (ng:Int) 6))=false∧((True∧(True∧(True∧((((((V.fz true 0 (ah 0 [.r 2,.i,.i,.i,.i] fi fb ls fr) nc 5):V)=(V.fz true 0 (ah 0 [.r 2,.i,.i,.i,.i] fi fb ls fr) nc 5))∧(((((V.fz true 1 (ae .i64 fm) nm 4):V)=(V.fz true 1 (ae .i64 fm) nm 4))∧(True∧True))∧((((V.fz true 2 (ah 2 [.i,.i,.i,.i,.b] gi gb gl gr) ng 5):V)=(V.fz true 2 (ah 2 [.i,.i,.i,.i,.b] gi gb gl gr) ng 5))∧(True∧True))))∧(True∧True))∧True))))∧(((((V.ptr 4 0):V)=(V.ptr 4 0))∧((((0):Int)=0)∧True))∧True))))))
theorem fb9 (h1:nc≤3) (h2:nm≤4) (h3:ng≤6) (h:1≤nc):VC (lZ Try.prog aA 900 [1,0] fxA (Lv.res ww 218 (fV (baA nc fi fb ls fr nm fm ng gi gb gl gr) ww 200 (uy 0)) (uy 0)) (fun a H=>eF Try.prog kD aA (.leaf False) 900 none [1,0,1,0] frA a H (fun a H => .leaf (Eg (yZ nc fi fb ls fr nm fm ng gi gb gl gr) vk 218 300 (gX 0) a H)))) (.go 6 .nil):=ay (((aK (nc:Int) 0)=false∧((True∧(True∧(True∧((((((V.fz true 0 (ah 0 [.r 2,.i,.i,.i,.i] fi fb ls fr) nc 5):V)=(V.fz true 0 (ah 0 [.r 2,.i,.i,.i,.i] fi fb ls fr) nc 5))∧(((((V.fz true 1 (ae .i64 fm) nm 4):V)=(V.fz true 1 (ae .i64 fm) nm 4))∧(True∧True))∧((((V.fz true 2 (ah 2 [.i,.i,.i,.i,.b] gi gb gl gr) ng 5):V)=(V.fz true 2 (ah 2 [.i,.i,.i,.i,.b] gi gb gl gr) ng 5))∧(True∧True))))∧(True∧True))∧True))))∧(((((V.ptr 4 0):V)=(V.ptr 4 0))∧((((0):Int)=0)∧True))∧True))))
theorem fc9:VC (lZ Try.prog aA 900 [1,0] fxB (Lv.res vk 218 (fV (yZ nc fi fb ls fr nm fm ng gi gb gl gr) vk 300 (uy 2)) (uy 2)) (fun a H=>eF Try.prog kD aA (.leaf False) 900 none [0,1,0] frB a H (fun a H => .leaf (Eg (baC nc fi fb ls fr nm fm ng gi gb gl gr) lfC 218 400 (gX 0) a H)))) .nil:=ay (((True∧(True∧(True∧((((((V.fz true 0 (ah 0 [.r 2,.i,.i,.i,.i] fi fb ls fr) nc 5):V)=(V.fz true 0 (ah 0 [.r 2,.i,.i,.i,.i] fi fb ls fr) nc 5))∧(((((V.fz true 1 (ae .i64 fm) nm 4):V)=(V.fz true 1 (ae .i64 fm) nm 4))∧(True∧True))∧((((V.fz true 2 (ah 2 [.i,.i,.i,.i,.b] gi gb gl gr) ng 5):V)=(V.fz true 2 (ah 2 [.i,.i,.i,.i,.b] gi gb gl gr) ng 5))∧(True∧True))))∧(True∧True))∧True))))∧(((((V.ptr 4 0):V)=(V.ptr 4 0))∧((((0):Int)=0)∧True))∧True)))
theorem fd9:VC (lZ Try.prog aA 900 [1,0] fxC (Lv.res lfC 218 (fV (baC nc fi fb ls fr nm fm ng gi gb gl gr) lfC 400 (uy 6)) (uy 6)) (fun a H=>eF Try.prog kD aA (.leaf False) 900 none [0,1,0] frC a H (fun a H => .leaf (Eg (baD nc fi fb ls fr nm fm ng gi gb gl gr) lfD 218 500 (gX 0) a H)))) .nil:=ay (((True∧(True∧(True∧((((((V.fz true 0 (ah 0 [.r 2,.i,.i,.i,.i] fi fb ls fr) nc 5):V)=(V.fz true 0 (ah 0 [.r 2,.i,.i,.i,.i] fi fb ls fr) nc 5))∧(((((V.fz true 1 (ae .i64 fm) nm 4):V)=(V.fz true 1 (ae .i64 fm) nm 4))∧(True∧True))∧((((V.fz true 2 (ah 2 [.i,.i,.i,.i,.b] gi gb gl gr) ng 5):V)=(V.fz true 2 (ah 2 [.i,.i,.i,.i,.b] gi gb gl gr) ng 5))∧(True∧True))))∧(True∧True))∧True))))∧(((((V.ptr 4 0):V)=(V.ptr 4 0))∧((((0):Int)=0)∧True))∧True)))
def RY:Val:=fun das=>match das with | [.st [.rw [.r 2,.i,.i,.i,.i] nc fi fb ls fr,.sl 4 nm fm,.rw [.i,.i,.i,.i,.b] ng gi gb gl gr]]=>some ((cond (Nat.ble nc 1000) (cond (Nat.ble nm 1000) (cond (Nat.ble ng 1000) (dD nc (fun i=>ls i 0)) false) false) false),.int .i64 (az nc fi ls fr nm fm ng gi)) | _=>none
theorem kaB_t {n:Nat} {f:Nat→Nat→Int} {sl sh ll lh:Int}:kaB n f sl sh ll lh=true↔Mk n f∧sl≤sh∧0≤sl∧sh≤f (n-1) 1∧ll≤lh∧0≤ll∧lh≤4:=by
 unfold kaB
 constructor
 ·intro h
  obtain ⟨h1,h⟩:=ax h
  obtain ⟨h2,h3⟩:=ax h
  obtain ⟨a1,a2,a3,a4,a5⟩:=rgK_t.mp h2
  obtain ⟨b1,b2,b3,b4,b5⟩:=rgK_t.mp h3
  exact ⟨mkB_t.mp h1,a1,a2,a5,b1,b2,b5⟩
 ·rintro ⟨m,a1,a2,a5,b1,b2,b5⟩
  exact bY (mkB_t.mpr m) (bY (rgK_t.mpr ⟨a1,a2,by omega,by omega,a5⟩) (rgK_t.mpr ⟨b1,b2,by omega,by omega,b5⟩))
theorem mk_2 {f:Nat→Nat→Int}:Mk 2 f↔(f 0 0=0∧f 0 1=0∧f 0 0<f 1 0∧f 0 1<f 1 1∧f 1 0≤100∧f 1 1≤1000):=by
 constructor
 ·intro m;exact ⟨m.z0,m.z1,(m.up 0 (by decide)).1,(m.up 0 (by decide)).2,m.l0,m.l1⟩
 ·rintro ⟨z0,z1,a0,b0,l0,l1⟩
  refine ⟨by decide,z0,z1,fun i hi=>?_,l0,l1⟩
  have:i=0:=by omega
  rcases this with rfl
  ·exact ⟨a0,b0⟩
theorem mk_3 {f:Nat→Nat→Int}:Mk 3 f↔(f 0 0=0∧f 0 1=0∧f 0 0<f 1 0∧f 0 1<f 1 1∧f 1 0<f 2 0∧f 1 1<f 2 1∧f 2 0≤100∧f 2 1≤1000):=by
 constructor
 ·intro m;exact ⟨m.z0,m.z1,(m.up 0 (by decide)).1,(m.up 0 (by decide)).2,(m.up 1 (by decide)).1,(m.up 1 (by decide)).2,m.l0,m.l1⟩
 ·rintro ⟨z0,z1,a0,b0,a1,b1,l0,l1⟩
  refine ⟨by decide,z0,z1,fun i hi=>?_,l0,l1⟩
  have:i=0∨i=1:=by omega
  rcases this with rfl | rfl
  ·exact ⟨a0,b0⟩
  ·exact ⟨a1,b1⟩
theorem mk_4 {f:Nat→Nat→Int}:Mk 4 f↔(f 0 0=0∧f 0 1=0∧f 0 0<f 1 0∧f 0 1<f 1 1∧f 1 0<f 2 0∧f 1 1<f 2 1∧f 2 0<f 3 0∧f 2 1<f 3 1∧f 3 0≤100∧f 3 1≤1000):=by
 constructor
 ·intro m;exact ⟨m.z0,m.z1,(m.up 0 (by decide)).1,(m.up 0 (by decide)).2,(m.up 1 (by decide)).1,(m.up 1 (by decide)).2,(m.up 2 (by decide)).1,(m.up 2 (by decide)).2,m.l0,m.l1⟩
 ·rintro ⟨z0,z1,a0,b0,a1,b1,a2,b2,l0,l1⟩
  refine ⟨by decide,z0,z1,fun i hi=>?_,l0,l1⟩
  have:i=0∨i=1∨i=2:=by omega
  rcases this with rfl | rfl | rfl
  ·exact ⟨a0,b0⟩
  ·exact ⟨a1,b1⟩
  ·exact ⟨a2,b2⟩
theorem mk_5 {f:Nat→Nat→Int}:Mk 5 f↔(f 0 0=0∧f 0 1=0∧f 0 0<f 1 0∧f 0 1<f 1 1∧f 1 0<f 2 0∧f 1 1<f 2 1∧f 2 0<f 3 0∧f 2 1<f 3 1∧f 3 0<f 4 0∧f 3 1<f 4 1∧f 4 0≤100∧f 4 1≤1000):=by
 constructor
 ·intro m;exact ⟨m.z0,m.z1,(m.up 0 (by decide)).1,(m.up 0 (by decide)).2,(m.up 1 (by decide)).1,(m.up 1 (by decide)).2,(m.up 2 (by decide)).1,(m.up 2 (by decide)).2,(m.up 3 (by decide)).1,(m.up 3 (by decide)).2,m.l0,m.l1⟩
 ·rintro ⟨z0,z1,a0,b0,a1,b1,a2,b2,a3,b3,l0,l1⟩
  refine ⟨by decide,z0,z1,fun i hi=>?_,l0,l1⟩
  have:i=0∨i=1∨i=2∨i=3:=by omega
  rcases this with rfl | rfl | rfl | rfl
  ·exact ⟨a0,b0⟩
  ·exact ⟨a1,b1⟩
  ·exact ⟨a2,b2⟩
  ·exact ⟨a3,b3⟩
theorem jA (h1:nc≤3) (hf:ru nc (fun i=>ls i 0)=true):JL Try.prog (baA nc fi fb ls fr nm fm ng gi gb gl gr) ww 218 200 none (.loop bfA) (gX 0) (uy 0) :=
 bF (body:=bfA) (fun _ e=>by cases e) nc gX (fun k hk=>aI au aj (fa1 nc fi fb ls fr nm fm ng gi gb gl gr k hk h1 (Nat.le_of_ble_eq_true (aQ hf k hk))).ok (by kernel_rfl) (by kernel_rfl)) (aI au aj (fa3 nc fi fb ls fr nm fm ng gi gb gl gr nc (by omega)).ok (by kernel_rfl) (by kernel_rfl))
theorem jA' (h1:nc≤3) (hf:ru nc (fun i=>ls i 0)=false):JL Try.prog (baA nc fi fb ls fr nm fm ng gi gb gl gr) ww 218 200 none (.loop bfA) (gX 0) (vf 3):=by
 rcases fZ (fun i=>Nat.ble ((fun i=>ls i 0) i) 5) nc with h | ⟨N,h2,h3,h4⟩
 ·rw [show ru nc (fun i=>ls i 0)=true from bu h] at hf;cases hf
 ·exact bF (body:=bfA) (fun _ e=>by cases e) N gX (fun k hk=>aI au aj (fa1 nc fi fb ls fr nm fm ng gi gb gl gr k (by omega) h1 (Nat.le_of_ble_eq_true (h3 k hk))).ok (by kernel_rfl) (by kernel_rfl)) (aI au aj (fa2 nc fi fb ls fr nm fm ng gi gb gl gr N h2 h1 (by have q:=(tZ _ _).mp h4;dsimp only at q;omega)).ok (by kernel_rfl) (by kernel_rfl))
theorem rB1 (h1:nc≤3) (k:Nat) (hk:k<nc) (h5:ls k 0≤5) (h:kaB (ls k 0) (fr k 0) (fi k 1) (fi k 2) (fi k 3) (fi k 4)=true):JL Try.prog (yZ nc fi fb ls fr nm fm ng gi gb gl gr) vk 218 300 none wB (gX k) (.next (gX (k+1))):=by
 obtain ⟨m,s1,s2,s3,s4,s5,s6⟩:=kaB_t.mp h
 have:ls k 0=2∨ls k 0=3∨ls k 0=4∨ls k 0=5:=by have:=m.two;omega
 rcases this with q | q | q | q
 ·rw [q] at m s3
  obtain ⟨z0,z1,a0,b0,l0,l1⟩:=mk_2.mp m
  exact aI au aj (ZI nc fi fb ls fr nm fm ng gi gb gl gr k hk h1 q (by rw [q];rfl) ⟨z0,z1,a0,b0,l0,l1,s1,s2,s3,s4,s5,s6⟩).ok (by kernel_rfl) (by kernel_rfl)
 ·rw [q] at m s3
  obtain ⟨z0,z1,a0,b0,a1,b1,l0,l1⟩:=mk_3.mp m
  exact aI au aj (Zu nc fi fb ls fr nm fm ng gi gb gl gr k hk h1 q (by rw [q];rfl) ⟨z0,z1,a0,b0,a1,b1,l0,l1,s1,s2,s3,s4,s5,s6⟩).ok (by kernel_rfl) (by kernel_rfl)
 ·rw [q] at m s3
  obtain ⟨z0,z1,a0,b0,a1,b1,a2,b2,l0,l1⟩:=mk_4.mp m
  exact aI au aj (YV nc fi fb ls fr nm fm ng gi gb gl gr k hk h1 q (by rw [q];rfl) ⟨z0,z1,a0,b0,a1,b1,a2,b2,l0,l1,s1,s2,s3,s4,s5,s6⟩).ok (by kernel_rfl) (by kernel_rfl)
 ·rw [q] at m s3
  obtain ⟨z0,z1,a0,b0,a1,b1,a2,b2,a3,b3,l0,l1⟩:=mk_5.mp m
  exact aI au aj (Yh nc fi fb ls fr nm fm ng gi gb gl gr k hk h1 q (by rw [q];rfl) ⟨z0,z1,a0,b0,a1,b1,a2,b2,a3,b3,l0,l1,s1,s2,s3,s4,s5,s6⟩).ok (by kernel_rfl) (by kernel_rfl)
theorem rB2 (h1:nc≤3) (k:Nat) (hk:k<nc) (h5:ls k 0≤5) (hb:kaB (ls k 0) (fr k 0) (fi k 1) (fi k 2) (fi k 3) (fi k 4)=false):JL Try.prog (yZ nc fi fb ls fr nm fm ng gi gb gl gr) vk 218 300 none wB (gX k) (vf 1):=by
 by_cases h2:ls k 0<2
 ·exact aI au aj (fb1 nc fi fb ls fr nm fm ng gi gb gl gr k hk h1 h2).ok (by kernel_rfl) (by kernel_rfl)
 ·have:ls k 0=2∨ls k 0=3∨ls k 0=4∨ls k 0=5:=by omega
  rcases this with q | q | q | q
  ·cases hz:(cond (aK (fr k 0 0 0) (0)) (cond (aK (fr k 0 0 1) (0)) true false) false) with
   | false=>exact aI au aj (Yj nc fi fb ls fr nm fm ng gi gb gl gr k hk h1 q hz).ok (by kernel_rfl) (by kernel_rfl)
   | true =>
    obtain ⟨z0,z1⟩:=ax hz
    obtain ⟨z1,_⟩:=ax z1
    have z0:=(dw _ _).mp z0
    have z1:=(dw _ _).mp z1
    refine aI au aj (YS nc fi fb ls fr nm fm ng gi gb gl gr k hk h1 q (by rw [q];rfl) z0 z1 ?_).ok (by kernel_rfl) (by kernel_rfl)
    rintro ⟨a0,b0,l0,l1,s1,s2,s3,s4,s5,s6⟩
    rw [q,kaB_t.mpr ⟨mk_2.mpr ⟨z0,z1,a0,b0,l0,l1⟩,s1,s2,s3,s4,s5,s6⟩] at hb
    cases hb
  ·cases hz:(cond (aK (fr k 0 0 0) (0)) (cond (aK (fr k 0 0 1) (0)) true false) false) with
   | false=>exact aI au aj (Zn nc fi fb ls fr nm fm ng gi gb gl gr k hk h1 q hz).ok (by kernel_rfl) (by kernel_rfl)
   | true =>
    obtain ⟨z0,z1⟩:=ax hz
    obtain ⟨z1,_⟩:=ax z1
    have z0:=(dw _ _).mp z0
    have z1:=(dw _ _).mp z1
    refine aI au aj (ZT nc fi fb ls fr nm fm ng gi gb gl gr k hk h1 q (by rw [q];rfl) z0 z1 ?_).ok (by kernel_rfl) (by kernel_rfl)
    rintro ⟨a0,b0,a1,b1,l0,l1,s1,s2,s3,s4,s5,s6⟩
    rw [q,kaB_t.mpr ⟨mk_3.mpr ⟨z0,z1,a0,b0,a1,b1,l0,l1⟩,s1,s2,s3,s4,s5,s6⟩] at hb
    cases hb
  ·cases hz:(cond (aK (fr k 0 0 0) (0)) (cond (aK (fr k 0 0 1) (0)) true false) false) with
   | false=>exact aI au aj (Zf nc fi fb ls fr nm fm ng gi gb gl gr k hk h1 q hz).ok (by kernel_rfl) (by kernel_rfl)
   | true =>
    obtain ⟨z0,z1⟩:=ax hz
    obtain ⟨z1,_⟩:=ax z1
    have z0:=(dw _ _).mp z0
    have z1:=(dw _ _).mp z1
    refine aI au aj (Y5 nc fi fb ls fr nm fm ng gi gb gl gr k hk h1 q (by rw [q];rfl) z0 z1 ?_).ok (by kernel_rfl) (by kernel_rfl)
    rintro ⟨a0,b0,a1,b1,a2,b2,l0,l1,s1,s2,s3,s4,s5,s6⟩
    rw [q,kaB_t.mpr ⟨mk_4.mpr ⟨z0,z1,a0,b0,a1,b1,a2,b2,l0,l1⟩,s1,s2,s3,s4,s5,s6⟩] at hb
    cases hb
  ·cases hz:(cond (aK (fr k 0 0 0) (0)) (cond (aK (fr k 0 0 1) (0)) true false) false) with
   | false=>exact aI au aj (Zg nc fi fb ls fr nm fm ng gi gb gl gr k hk h1 q hz).ok (by kernel_rfl) (by kernel_rfl)
   | true =>
    obtain ⟨z0,z1⟩:=ax hz
    obtain ⟨z1,_⟩:=ax z1
    have z0:=(dw _ _).mp z0
    have z1:=(dw _ _).mp z1
    refine aI au aj (YA nc fi fb ls fr nm fm ng gi gb gl gr k hk h1 q (by rw [q];rfl) z0 z1 ?_).ok (by kernel_rfl) (by kernel_rfl)
    rintro ⟨a0,b0,a1,b1,a2,b2,a3,b3,l0,l1,s1,s2,s3,s4,s5,s6⟩
    rw [q,kaB_t.mpr ⟨mk_5.mpr ⟨z0,z1,a0,b0,a1,b1,a2,b2,a3,b3,l0,l1⟩,s1,s2,s3,s4,s5,s6⟩] at hb
    cases hb
theorem jB (h1:nc≤3) (hf:ru nc (fun i=>ls i 0)=true) (ha:zl nc (fun i=>ls i 0) (fun i=>fr i 0) (fun i=>fi i 1) (fun i=>fi i 2) (fun i=>fi i 3) (fun i=>fi i 4)=true):JL Try.prog (yZ nc fi fb ls fr nm fm ng gi gb gl gr) vk 218 300 none (.loop wB) (gX 0) (uy 2) :=
 bF (body:=wB) (fun _ e=>by cases e) nc gX (fun k hk=>rB1 nc fi fb ls fr nm fm ng gi gb gl gr h1 k hk (Nat.le_of_ble_eq_true (aQ hf k hk)) (aQ ha k hk)) (aI au aj (fb3 nc fi fb ls fr nm fm ng gi gb gl gr nc (by omega)).ok (by kernel_rfl) (by kernel_rfl))
theorem jB' (h1:nc≤3) (hf:ru nc (fun i=>ls i 0)=true) (ha:zl nc (fun i=>ls i 0) (fun i=>fr i 0) (fun i=>fi i 1) (fun i=>fi i 2) (fun i=>fi i 3) (fun i=>fi i 4)=false):JL Try.prog (yZ nc fi fb ls fr nm fm ng gi gb gl gr) vk 218 300 none (.loop wB) (gX 0) (vf 1):=by
 rcases fZ (fun k=>kaB (ls k 0) (fr k 0) (fi k 1) (fi k 2) (fi k 3) (fi k 4)) nc with h | ⟨N,h2,h3,h4⟩
 ·rw [show zl nc (fun i=>ls i 0) (fun i=>fr i 0) (fun i=>fi i 1) (fun i=>fi i 2) (fun i=>fi i 3) (fun i=>fi i 4)=true from bu h] at ha;cases ha
 ·exact bF (body:=wB) (fun _ e=>by cases e) N gX (fun k hk=>rB1 nc fi fb ls fr nm fm ng gi gb gl gr h1 k (by omega) (Nat.le_of_ble_eq_true (aQ hf k (by omega))) (h3 k hk)) (rB2 nc fi fb ls fr nm fm ng gi gb gl gr h1 N h2 (Nat.le_of_ble_eq_true (aQ hf N h2)) h4)
theorem jC (h1:nc≤3) (h2:nm≤4) (ha:avB nc nm fm=true):JL Try.prog (baC nc fi fb ls fr nm fm ng gi gb gl gr) lfC 218 400 none (.loop bfC) (gX 0) (uy 6) :=
 bF (body:=bfC) (fun _ e=>by cases e) nm gX (fun k hk=>aI au aj (fc1 nc fi fb ls fr nm fm ng gi gb gl gr k hk h1 h2 (mvB_t.mp (aQ ha k hk))).ok (by kernel_rfl) (by kernel_rfl)) (aI au aj (fc3 nc fi fb ls fr nm fm ng gi gb gl gr nm (by omega)).ok (by kernel_rfl) (by kernel_rfl))
theorem jC' (h1:nc≤3) (h2:nm≤4) (ha:avB nc nm fm=false):JL Try.prog (baC nc fi fb ls fr nm fm ng gi gb gl gr) lfC 218 400 none (.loop bfC) (gX 0) (vf 1):=by
 rcases fZ (fun k=>mvB nc (fm k 0) (fm k 1) (fm k 2) (fm k 3)) nm with h | ⟨N,h3,h4,h5⟩
 ·rw [show avB nc nm fm=true from bu h] at ha;cases ha
 ·exact bF (body:=bfC) (fun _ e=>by cases e) N gX (fun k hk=>aI au aj (fc1 nc fi fb ls fr nm fm ng gi gb gl gr k (by omega) h1 h2 (mvB_t.mp (h4 k hk))).ok (by kernel_rfl) (by kernel_rfl)) (aI au aj (fc2 nc fi fb ls fr nm fm ng gi gb gl gr N h3 h1 h2 (fun q=>by rw [mvB_t.mpr q] at h5;cases h5)).ok (by kernel_rfl) (by kernel_rfl))
theorem jD (h1:nc≤3) (h2:nm≤4) (h3:ng≤6) (hl:lnB nc (fun i=>ls i 0)=true) (ha:agB nc (fun i=>ls i 0) (fun i=>fr i 0) nm ng (fun i=>gi i 0) (fun i=>gi i 1) (fun i=>gi i 2) (fun i=>gi i 3)=true):JL Try.prog (baD nc fi fb ls fr nm fm ng gi gb gl gr) lfD 218 500 none (.loop bfD) (gX 0) xfD :=
 bF (body:=bfD) (fun _ e=>by cases e) ng gX (fun k hk=>by
  have q:=(zS hl).mp (aQ ha k hk)
  dsimp only at q
  exact aI au aj (fd1 nc fi fb ls fr nm fm ng gi gb gl gr k hk h1 h2 h3 (Be hl (i:=Int.toNat (gi k 0)) (by have:=q.1;have:=q.2.1;omega)) q).ok (by kernel_rfl) (by kernel_rfl)) (aI au aj (fd3 nc fi fb ls fr nm fm ng gi gb gl gr ng (by omega)).ok (by kernel_rfl) (by kernel_rfl))
theorem jD' (h1:nc≤3) (h2:nm≤4) (h3:ng≤6) (hl:lnB nc (fun i=>ls i 0)=true) (ha:agB nc (fun i=>ls i 0) (fun i=>fr i 0) nm ng (fun i=>gi i 0) (fun i=>gi i 1) (fun i=>gi i 2) (fun i=>gi i 3)=false):JL Try.prog (baD nc fi fb ls fr nm fm ng gi gb gl gr) lfD 218 500 none (.loop bfD) (gX 0) (vf 1):=by
 rcases fZ (fun k=>ggB nc (fun i=>ls i 0) (fun i=>fr i 0) nm (gi k 0) (gi k 1) (gi k 2) (gi k 3)) ng with h | ⟨N,h4,h5,h6⟩
 ·rw [show agB nc (fun i=>ls i 0) (fun i=>fr i 0) nm ng (fun i=>gi i 0) (fun i=>gi i 1) (fun i=>gi i 2) (fun i=>gi i 3)=true from bu h] at ha;cases ha
 ·exact bF (body:=bfD) (fun _ e=>by cases e) N gX (fun k hk=>by
   have q:=(zS hl).mp (h5 k hk)
   exact aI au aj (fd1 nc fi fb ls fr nm fm ng gi gb gl gr k (by omega) h1 h2 h3 (Be hl (i:=Int.toNat (gi k 0)) (by have:=q.1;have:=q.2.1;omega)) q).ok (by kernel_rfl) (by kernel_rfl)) (aI au aj (fd2 nc fi fb ls fr nm fm ng gi gb gl gr N h4 h1 h2 h3 (fun a b=>Be hl (i:=Int.toNat (gi N 0)) (by omega)) (fun q=>by rw [(zS hl).mpr q] at h6;cases h6)).ok (by kernel_rfl) (by kernel_rfl))
theorem Xf:zA Try.prog 39 RY:=by
 intro das v hv
 unfold RY at hv
 split at hv
 ·rename_i nc fi fb ls fr nm fm ng gi gb gl gr
  have hb:=congrArg Prod.fst (Option.some.inj hv)
  have hv:=congrArg Prod.snd (Option.some.inj hv)
  subst hv
  obtain ⟨b1,b2,b3,b4⟩:=DK hb
  by_cases h:nc≤3∧nm≤4∧ng≤6
  ·obtain ⟨h1,h2,h3⟩:=h
   have hcA:sub [1,0] fxA = .loop bfA:=by kernel_rfl
   have hcA':sub [1,1,0,1,0] cFb = .loop bfA:=by kernel_rfl
   have hcB:sub [1,0] fxB = .loop wB:=by kernel_rfl
   have hcB':sub [1,0,1,0] frA = .loop wB:=by kernel_rfl
   have hcC:sub [1,0] fxC = .loop bfC:=by kernel_rfl
   have hcC':sub [0,1,0] frB = .loop bfC:=by kernel_rfl
   have hcD:sub [1,0] fxD = .loop bfD:=by kernel_rfl
   have hcD':sub [0,1,0] frC = .loop bfD:=by kernel_rfl
   refine ⟨rfl,OQ (by kernel_rfl) ?_⟩
   cases hf:ru nc (fun i=>ls i 0) with
   | false =>
    have e:(az nc fi ls fr nm fm ng gi)=3:=by (first | unfold az ceE | unfold ceE);rw [Nat.ble_eq_true_of_le h1,Nat.ble_eq_true_of_le h2,Nat.ble_eq_true_of_le h3,hf];rfl
    rw [e]
    have j:=jA' nc fi fb ls fr nm fm ng gi gb gl gr h1 hf
    rw [← hcA'] at j
    exact pO au aj (eU _ _ (fa9 nc fi fb ls fr nm fm ng gi gb gl gr h1 h2 h3).ok) j (ZB nc fi fb ls fr nm fm ng gi gb gl gr)
   | true =>
    have e0:(az nc fi ls fr nm fm ng gi)=cond (Nat.ble 1 nc) (cond (zl nc (fun i=>ls i 0) (fun i=>fr i 0) (fun i=>fi i 1) (fun i=>fi i 2) (fun i=>fi i 3) (fun i=>fi i 4)) (cond (avB nc nm fm) (cond (agB nc (fun i=>ls i 0) (fun i=>fr i 0) nm ng (fun i=>gi i 0) (fun i=>gi i 1) (fun i=>gi i 2) (fun i=>gi i 3)) 0 1) 1) 1) 1:=by (first | unfold az ceE | unfold ceE);rw [Nat.ble_eq_true_of_le h1,Nat.ble_eq_true_of_le h2,Nat.ble_eq_true_of_le h3,hf];rfl
    rw [e0]
    have hto:=eU _ _ (fa0 nc fi fb ls fr nm fm ng gi gb gl gr h1 h2 h3).ok
    have jA:=jA nc fi fb ls fr nm fm ng gi gb gl gr h1 hf
    rw [← hcA] at jA
    by_cases h0:nc=0
    ·rw [show Nat.ble 1 nc=false by rw [h0];rfl]
     exact good_step au aj (rest:=frA) (by kernel_rfl) (fun _ _=>rfl) hto jA (fz0 nc fi fb ls fr nm fm ng gi gb gl gr h1 h2 h3 h0) (fun a H h=>oC au aj h)
    ·have h0:1≤nc:=by omega
     rw [Nat.ble_eq_true_of_le h0]
     cases q:zl nc (fun i=>ls i 0) (fun i=>fr i 0) (fun i=>fi i 1) (fun i=>fi i 2) (fun i=>fi i 3) (fun i=>fi i 4) with
     | false =>
      have j:=jB' nc fi fb ls fr nm fm ng gi gb gl gr h1 hf q
      rw [← hcB'] at j
      exact good_step au aj (rest:=frA) (by kernel_rfl) (fun _ _=>rfl) hto jA (fb9 nc fi fb ls fr nm fm ng gi gb gl gr h1 h2 h3 h0) (fun a H h=>pO au aj h j (Zh nc fi fb ls fr nm fm ng gi gb gl gr))
     | true =>
      have hl:=Lt hf q
      have jB:=jB nc fi fb ls fr nm fm ng gi gb gl gr h1 hf q
      rw [← hcB] at jB
      cases q2:avB nc nm fm with
      | false =>
       have j:=jC' nc fi fb ls fr nm fm ng gi gb gl gr h1 h2 q2
       rw [← hcC'] at j
       exact good_step au aj (rest:=frA) (by kernel_rfl) (fun _ _=>rfl) hto jA (fb0 nc fi fb ls fr nm fm ng gi gb gl gr h1 h2 h3 h0) (fun a H h =>
        good_step au aj (rest:=frB) (by kernel_rfl) (fun _ _=>rfl) h jB (fc9 nc fi fb ls fr nm fm ng gi gb gl gr) (fun a H h=>pO au aj h j (Zq nc fi fb ls fr nm fm ng gi gb gl gr)))
      | true =>
       have jC:=jC nc fi fb ls fr nm fm ng gi gb gl gr h1 h2 q2
       rw [← hcC] at jC
       cases q3:agB nc (fun i=>ls i 0) (fun i=>fr i 0) nm ng (fun i=>gi i 0) (fun i=>gi i 1) (fun i=>gi i 2) (fun i=>gi i 3) with
       | false =>
        have j:=jD' nc fi fb ls fr nm fm ng gi gb gl gr h1 h2 h3 hl q3
        rw [← hcD'] at j
        exact good_step au aj (rest:=frA) (by kernel_rfl) (fun _ _=>rfl) hto jA (fb0 nc fi fb ls fr nm fm ng gi gb gl gr h1 h2 h3 h0) (fun a H h =>
         good_step au aj (rest:=frB) (by kernel_rfl) (fun _ _=>rfl) h jB (fc0 nc fi fb ls fr nm fm ng gi gb gl gr) (fun a H h =>
          good_step au aj (rest:=frC) (by kernel_rfl) (fun _ _=>rfl) h jC (fd9 nc fi fb ls fr nm fm ng gi gb gl gr) (fun a H h=>pO au aj h j (YG nc fi fb ls fr nm fm ng gi gb gl gr))))
       | true =>
        have j:=jD nc fi fb ls fr nm fm ng gi gb gl gr h1 h2 h3 hl q3
        rw [← hcD] at j
        exact good_step au aj (rest:=frA) (by kernel_rfl) (fun _ _=>rfl) hto jA (fb0 nc fi fb ls fr nm fm ng gi gb gl gr h1 h2 h3 h0) (fun a H h =>
         good_step au aj (rest:=frB) (by kernel_rfl) (fun _ _=>rfl) h jB (fc0 nc fi fb ls fr nm fm ng gi gb gl gr) (fun a H h =>
          good_step au aj (rest:=frC) (by kernel_rfl) (fun _ _=>rfl) h jC (fd0 nc fi fb ls fr nm fm ng gi gb gl gr) (fun a H h =>
           good_step au aj (rest:=frD) (by kernel_rfl) (fun _ _=>rfl) h j (fe0 nc fi fb ls fr nm fm ng gi gb gl gr) (fun a H h=>oC au aj h))))
  ·have e:(az nc fi ls fr nm fm ng gi)=3:=by
    (first | unfold az ceE | unfold ceE)
    cases z1:Nat.ble nc 3 with
    | false=>rfl
    | true =>
     cases z2:Nat.ble nm 4 with
     | false=>rfl
     | true =>
      cases z3:Nat.ble ng 6 with
      | false=>rfl
      | true=>exact absurd ⟨Nat.le_of_ble_eq_true z1,Nat.le_of_ble_eq_true z2,Nat.le_of_ble_eq_true z3⟩ h
   rw [e]
   exact aJ au aj rfl (das:=[.st [.rw [.r 2,.i,.i,.i,.i] nc fi fb ls fr,.sl 4 nm fm,.rw [.i,.i,.i,.i,.b] ng gi gb gl gr]]) (fl0 nc fi fb ls fr nm fm ng gi gb gl gr b1 b2 b3 h)
 ·cases hv
end
end Go.Proofs.Ytflblednifbleaa
