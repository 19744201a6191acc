/- Casks: CaskGauges: the law's contract. -/
import Derived.Test.YtflblednifbleaaYCaG1
import Derived.Test.YtflblednifbleaaYCaV9
set_option linter.all false
set_option linter.unusedSimpArgs false
set_option linter.unusedVariables false
namespace Go.Proofs.Ytflblednifbleaa
namespace CG
open Go Go.Ev
set_option maxRecDepth 1000000
set_option maxHeartbeats 0
noncomputable section
variable (nc:Nat) (fi:Nat→Nat→Int) (fb:Nat→Nat→Bool) (ls:Nat→Nat→Nat) (fr:Nat→Nat→Nat→Nat→Int) (nm:Nat) (fm:Nat→Nat→Int) (ng:Nat) (gi:Nat→Nat→Int) (gb:Nat→Nat→Bool) (gl:Nat→Nat→Nat) (gr:Nat→Nat→Nat→Nat→Int)
theorem conCe:UK Try.prog 8 DX:=CV.conCe
theorem fA:dC Try.prog XG:=jL (aS (dL CE.conAw)<|aS (dL Yf)<|aS (LH conCe)<|aS (dL Xo)<|aS (dL XJ)<|aS (dL Xd)<|aS (dL Ox)<|aS (dL Xf)<|aS (dL Vp)<|aS (dL Xz) eu)
def Uo:Val:=fun das=>match das with | [.st [.rw [.r 2,.i,.i,.i,.i] nc fi fb ls fr,.sl 4 nm fm,.rw [.i,.i,.i,.i,.b] ng gi gb gl gr],.one (.i .i64 k),.one (.i .i64 d),.one (.i .i64 x),.one (.i .i64 g)]=>some (true,.bool true) | _=>none
theorem Jz {n:Nat} (h:2≤n):Int.toNat ((n:Int)-1)=n-1:=by omega
theorem coO {e:Int} {nc:Nat} {l:Nat→Nat} {r:Nat→Nat→Nat→Int} {k d:Int} {j:Nat} (he:e=0) (h:¬ (0≤k∧k<nc∧0≤d∧d≤r (Int.toNat k) (l (Int.toNat k)-1) j)):Bc nc l r j k d=false:=by
 cases q:Bc nc l r j k d with
 | false=>rfl
 | true=>exact absurd (inK_t.mp q) h
theorem YF (k d x g:Int) (h:dU nc (fun i=>ls i 0) nm ng=true) (s1:nc≤5) (s2:nm≤7) (s3:ng≤9) (s4:dD nc (fun i=>ls i 0)=true) (hc:(az nc fi ls fr nm fm ng gi)=0) (n3:nc≤3) (m4:nm≤4) (g6:ng≤6) (e5:(bI (az nc fi ls fr nm fm ng gi) ng nc (fun i=>ls i 0) (fun i=>fr i 0) (fun i=>gi i 0) (fun i=>gi i 2) (fun i=>gi i 3) (fun i=>gb i 4) g 0)=0) (e6:(bI (az nc fi ls fr nm fm ng gi) ng nc (fun i=>ls i 0) (fun i=>fr i 0) (fun i=>gi i 0) (fun i=>gi i 2) (fun i=>gi i 3) (fun i=>gb i 4) g 1)=0) (e7:(lH (az nc fi ls fr nm fm ng gi) ng g)=2) (gq:¬ (0≤g∧g<ng)) (kq:0≤k∧k<nc) (mk:cu (ls (Int.toNat k) 0) (fr (Int.toNat k) 0)=true) (l2:2≤(ls (Int.toNat k) 0)∧(ls (Int.toNat k) 0)≤5) (dq:¬ (0≤d∧d≤(fr (Int.toNat k) 0 (Int.toNat (((ls (Int.toNat k) 0:Nat):Int)-1)) 0))) (e1:(jI (az nc fi ls fr nm fm ng gi) nc (fun i=>ls i 0) (fun i=>fr i 0) k d)=0) (e2:(bM 0 (az nc fi ls fr nm fm ng gi) nc (fun i=>ls i 0) (fun i=>fr i 0) k d)=2) (xq:0≤x∧x≤(fr (Int.toNat k) 0 (Int.toNat (((ls (Int.toNat k) 0:Nat):Int)-1)) 1)) (e3:(dJ (az nc fi ls fr nm fm ng gi) nc (fun i=>ls i 0) (fun i=>fr i 0) k x)=rq (ls (Int.toNat k) 0) (fr (Int.toNat k) 0) x) (e4:(bM 1 (az nc fi ls fr nm fm ng gi) nc (fun i=>ls i 0) (fun i=>fr i 0) k x)=0) (x0:0≤x):(∃ v' H',SpecCall Try.prog 3 (enc [.st [.rw [.r 2,.i,.i,.i,.i] nc fi fb ls fr,.sl 4 nm fm,.rw [.i,.i,.i,.i,.b] ng gi gb gl gr],.one (.i .i64 k),.one (.i .i64 d),.one (.i .i64 x),.one (.i .i64 g)] 0) (aY 4) v' H'∧bC v' (.bool true)):=by
 have hM:=mkB_t.mp mk
 have et:=Jz l2.1
 have lb:0≤fr (Int.toNat k) 0 (Int.toNat (((ls (Int.toNat k) 0:Nat):Int)-1)) 0∧fr (Int.toNat k) 0 (Int.toNat (((ls (Int.toNat k) 0:Nat):Int)-1)) 0≤100:=by
  rw [et]
  exact ⟨(hM.pos (ls (Int.toNat k) 0-1) (by omega)).1,hM.l0⟩
 have hb:nP (ls (Int.toNat k) 0) (fr (Int.toNat k) 0) x (Int.toNat (fr (Int.toNat k) 0 (Int.toNat (((ls (Int.toNat k) 0:Nat):Int)-1)) 0+1))=rq (ls (Int.toNat k) 0) (fr (Int.toNat k) 0) x:=by
  rw [et]
  exact BV hM x0
 have h1:(dJ (az nc fi ls fr nm fm ng gi) nc (fun i=>ls i 0) (fun i=>fr i 0) k x)=nP (ls (Int.toNat k) 0) (fr (Int.toNat k) 0) x (Int.toNat (fr (Int.toNat k) 0 (Int.toNat (((ls (Int.toNat k) 0:Nat):Int)-1)) 0+1)):=by rw [hb];exact e3
 exact dn au fA (das:=[.st [.rw [.r 2,.i,.i,.i,.i] nc fi fb ls fr,.sl 4 nm fm,.rw [.i,.i,.i,.i,.b] ng gi gb gl gr],.one (.i .i64 k),.one (.i .i64 d),.one (.i .i64 x),.one (.i .i64 g)]) (lv:=xgB (dJ (az nc fi ls fr nm fm ng gi) nc (fun i=>ls i 0) (fun i=>fr i 0) k x) (bM 1 (az nc fi ls fr nm fm ng gi) nc (fun i=>ls i 0) (fun i=>fr i 0) k x) (nP (ls (Int.toNat k) 0) (fr (Int.toNat k) 0) x (Int.toNat (fr (Int.toNat k) 0 (Int.toNat (((ls (Int.toNat k) 0:Nat):Int)-1)) 0+1)))) (by kernel_rfl) (by kernel_rfl) (Ze nc fi fb ls fr nm fm ng gi gb gl gr k d x g h s1 s2 s3 s4 hc n3 m4 g6 e5 e6 e7 gq kq mk l2 dq e1 e2 xq e3 e4).ok
  (bF (body:=bgB) (fun _ e=>by cases e) (Int.toNat (fr (Int.toNat k) 0 (Int.toNat (((ls (Int.toNat k) 0:Nat):Int)-1)) 0+1)) (fun i=>JI x (dJ (az nc fi ls fr nm fm ng gi) nc (fun i=>ls i 0) (fun i=>fr i 0) k x) (bM 1 (az nc fi ls fr nm fm ng gi) nc (fun i=>ls i 0) (fun i=>fr i 0) k x) (nP (ls (Int.toNat k) 0) (fr (Int.toNat k) 0) x i) i) (fun i hi=>by
   have di:bJ (ls (Int.toNat k) 0) (fr (Int.toNat k) 0) i=true:=inD_t.mpr ⟨by omega,by rw [← et];omega⟩
   by_cases h2:aZ (ls (Int.toNat k) 0) (fr (Int.toNat k) 0) i≤x
   ·have eb:nP (ls (Int.toNat k) 0) (fr (Int.toNat k) 0) x (i+1)=(i:Int):=by
     show cond (ai (aZ (ls (Int.toNat k) 0) (fr (Int.toNat k) 0) (Int.ofNat i)) x) (Int.ofNat i) _=(i:Int)
     rw [(aW _ _).mpr (show aZ (ls (Int.toNat k) 0) (fr (Int.toNat k) 0) (Int.ofNat i)≤x from h2)];rfl
    rw [eb]
    exact aI au fA (Xg nc fi fb ls fr nm fm ng gi gb gl gr (bI (az nc fi ls fr nm fm ng gi) ng nc (fun i=>ls i 0) (fun i=>fr i 0) (fun i=>gi i 0) (fun i=>gi i 2) (fun i=>gi i 3) (fun i=>gb i 4) g 0) (bI (az nc fi ls fr nm fm ng gi) ng nc (fun i=>ls i 0) (fun i=>fr i 0) (fun i=>gi i 0) (fun i=>gi i 2) (fun i=>gi i 3) (fun i=>gb i 4) g 1) 0 0 (ls (Int.toNat k) 0) (fr (Int.toNat k) 0) (fi (Int.toNat k) 1) (fi (Int.toNat k) 2) (fi (Int.toNat k) 3) (fi (Int.toNat k) 4) x (dJ (az nc fi ls fr nm fm ng gi) nc (fun i=>ls i 0) (fun i=>fr i 0) k x) (bM 1 (az nc fi ls fr nm fm ng gi) nc (fun i=>ls i 0) (fun i=>fr i 0) k x) _ i mk l2 lb (by omega) di h2).ok (by kernel_rfl) (by kernel_rfl)
   ·have eb:nP (ls (Int.toNat k) 0) (fr (Int.toNat k) 0) x (i+1)=nP (ls (Int.toNat k) 0) (fr (Int.toNat k) 0) x i:=by
     show cond (ai (aZ (ls (Int.toNat k) 0) (fr (Int.toNat k) 0) (Int.ofNat i)) x) (Int.ofNat i) (nP (ls (Int.toNat k) 0) (fr (Int.toNat k) 0) x i)=_
     rw [(nV _ _).mpr (show x<aZ (ls (Int.toNat k) 0) (fr (Int.toNat k) 0) (Int.ofNat i) from by have h2:¬ aZ (ls (Int.toNat k) 0) (fr (Int.toNat k) 0) (Int.ofNat i)≤x:=h2;omega)];rfl
    rw [eb]
    exact aI au fA (WR nc fi fb ls fr nm fm ng gi gb gl gr (bI (az nc fi ls fr nm fm ng gi) ng nc (fun i=>ls i 0) (fun i=>fr i 0) (fun i=>gi i 0) (fun i=>gi i 2) (fun i=>gi i 3) (fun i=>gb i 4) g 0) (bI (az nc fi ls fr nm fm ng gi) ng nc (fun i=>ls i 0) (fun i=>fr i 0) (fun i=>gi i 0) (fun i=>gi i 2) (fun i=>gi i 3) (fun i=>gb i 4) g 1) 0 0 (ls (Int.toNat k) 0) (fr (Int.toNat k) 0) (fi (Int.toNat k) 1) (fi (Int.toNat k) 2) (fi (Int.toNat k) 3) (fi (Int.toNat k) 4) x (dJ (az nc fi ls fr nm fm ng gi) nc (fun i=>ls i 0) (fun i=>fr i 0) k x) (bM 1 (az nc fi ls fr nm fm ng gi) nc (fun i=>ls i 0) (fun i=>fr i 0) k x) _ i mk l2 lb (by omega) di h2).ok (by kernel_rfl) (by kernel_rfl))
   (aI au fA (Xe nc fi fb ls fr nm fm ng gi gb gl gr (bI (az nc fi ls fr nm fm ng gi) ng nc (fun i=>ls i 0) (fun i=>fr i 0) (fun i=>gi i 0) (fun i=>gi i 2) (fun i=>gi i 3) (fun i=>gb i 4) g 0) (bI (az nc fi ls fr nm fm ng gi) ng nc (fun i=>ls i 0) (fun i=>fr i 0) (fun i=>gi i 0) (fun i=>gi i 2) (fun i=>gi i 3) (fun i=>gb i 4) g 1) 0 0 (ls (Int.toNat k) 0) (fr (Int.toNat k) 0) (fi (Int.toNat k) 1) (fi (Int.toNat k) 2) (fi (Int.toNat k) 3) (fi (Int.toNat k) 4) x (dJ (az nc fi ls fr nm fm ng gi) nc (fun i=>ls i 0) (fun i=>fr i 0) k x) (bM 1 (az nc fi ls fr nm fm ng gi) nc (fun i=>ls i 0) (fun i=>fr i 0) k x) _ _ mk l2 lb (by omega)).ok (by kernel_rfl) (by kernel_rfl)))
  (Xq nc fi fb ls fr nm fm ng gi gb gl gr (bI (az nc fi ls fr nm fm ng gi) ng nc (fun i=>ls i 0) (fun i=>fr i 0) (fun i=>gi i 0) (fun i=>gi i 2) (fun i=>gi i 3) (fun i=>gb i 4) g 0) (bI (az nc fi ls fr nm fm ng gi) ng nc (fun i=>ls i 0) (fun i=>fr i 0) (fun i=>gi i 0) (fun i=>gi i 2) (fun i=>gi i 3) (fun i=>gb i 4) g 1) 0 0 (ls (Int.toNat k) 0) (fr (Int.toNat k) 0) (fi (Int.toNat k) 1) (fi (Int.toNat k) 2) (fi (Int.toNat k) 3) (fi (Int.toNat k) 4) x (dJ (az nc fi ls fr nm fm ng gi) nc (fun i=>ls i 0) (fun i=>fr i 0) k x) (bM 1 (az nc fi ls fr nm fm ng gi) nc (fun i=>ls i 0) (fun i=>fr i 0) k x) _ h1 e4).ok
theorem YE (k d x g:Int) (h:dU nc (fun i=>ls i 0) nm ng=true) (s1:nc≤5) (s2:nm≤7) (s3:ng≤9) (s4:dD nc (fun i=>ls i 0)=true) (hc:(az nc fi ls fr nm fm ng gi)=0) (n3:nc≤3) (m4:nm≤4) (g6:ng≤6) (e5:(bI (az nc fi ls fr nm fm ng gi) ng nc (fun i=>ls i 0) (fun i=>fr i 0) (fun i=>gi i 0) (fun i=>gi i 2) (fun i=>gi i 3) (fun i=>gb i 4) g 0)=0) (e6:(bI (az nc fi ls fr nm fm ng gi) ng nc (fun i=>ls i 0) (fun i=>fr i 0) (fun i=>gi i 0) (fun i=>gi i 2) (fun i=>gi i 3) (fun i=>gb i 4) g 1)=0) (e7:(lH (az nc fi ls fr nm fm ng gi) ng g)=2) (gq:¬ (0≤g∧g<ng)) (kq:0≤k∧k<nc) (mk:cu (ls (Int.toNat k) 0) (fr (Int.toNat k) 0)=true) (l2:2≤(ls (Int.toNat k) 0)∧(ls (Int.toNat k) 0)≤5) (dq:0≤d∧d≤(fr (Int.toNat k) 0 (Int.toNat (((ls (Int.toNat k) 0:Nat):Int)-1)) 0)) (di:bJ (ls (Int.toNat k) 0) (fr (Int.toNat k) 0) d=true) (e1:(jI (az nc fi ls fr nm fm ng gi) nc (fun i=>ls i 0) (fun i=>fr i 0) k d)=aZ (ls (Int.toNat k) 0) (fr (Int.toNat k) 0) d) (e2:(bM 0 (az nc fi ls fr nm fm ng gi) nc (fun i=>ls i 0) (fun i=>fr i 0) k d)=0) (xq:0≤x∧x≤(fr (Int.toNat k) 0 (Int.toNat (((ls (Int.toNat k) 0:Nat):Int)-1)) 1)) (e3:(dJ (az nc fi ls fr nm fm ng gi) nc (fun i=>ls i 0) (fun i=>fr i 0) k x)=rq (ls (Int.toNat k) 0) (fr (Int.toNat k) 0) x) (e4:(bM 1 (az nc fi ls fr nm fm ng gi) nc (fun i=>ls i 0) (fun i=>fr i 0) k x)=0) (x0:0≤x):(∃ v' H',SpecCall Try.prog 3 (enc [.st [.rw [.r 2,.i,.i,.i,.i] nc fi fb ls fr,.sl 4 nm fm,.rw [.i,.i,.i,.i,.b] ng gi gb gl gr],.one (.i .i64 k),.one (.i .i64 d),.one (.i .i64 x),.one (.i .i64 g)] 0) (aY 4) v' H'∧bC v' (.bool true)):=by
 have hM:=mkB_t.mp mk
 have et:=Jz l2.1
 have lb:0≤fr (Int.toNat k) 0 (Int.toNat (((ls (Int.toNat k) 0:Nat):Int)-1)) 0∧fr (Int.toNat k) 0 (Int.toNat (((ls (Int.toNat k) 0:Nat):Int)-1)) 0≤100:=by
  rw [et]
  exact ⟨(hM.pos (ls (Int.toNat k) 0-1) (by omega)).1,hM.l0⟩
 have hb:nP (ls (Int.toNat k) 0) (fr (Int.toNat k) 0) x (Int.toNat (fr (Int.toNat k) 0 (Int.toNat (((ls (Int.toNat k) 0:Nat):Int)-1)) 0+1))=rq (ls (Int.toNat k) 0) (fr (Int.toNat k) 0) x:=by
  rw [et]
  exact BV hM x0
 have h1:(dJ (az nc fi ls fr nm fm ng gi) nc (fun i=>ls i 0) (fun i=>fr i 0) k x)=nP (ls (Int.toNat k) 0) (fr (Int.toNat k) 0) x (Int.toNat (fr (Int.toNat k) 0 (Int.toNat (((ls (Int.toNat k) 0:Nat):Int)-1)) 0+1)):=by rw [hb];exact e3
 exact dn au fA (das:=[.st [.rw [.r 2,.i,.i,.i,.i] nc fi fb ls fr,.sl 4 nm fm,.rw [.i,.i,.i,.i,.b] ng gi gb gl gr],.one (.i .i64 k),.one (.i .i64 d),.one (.i .i64 x),.one (.i .i64 g)]) (lv:=xgB (dJ (az nc fi ls fr nm fm ng gi) nc (fun i=>ls i 0) (fun i=>fr i 0) k x) (bM 1 (az nc fi ls fr nm fm ng gi) nc (fun i=>ls i 0) (fun i=>fr i 0) k x) (nP (ls (Int.toNat k) 0) (fr (Int.toNat k) 0) x (Int.toNat (fr (Int.toNat k) 0 (Int.toNat (((ls (Int.toNat k) 0:Nat):Int)-1)) 0+1)))) (by kernel_rfl) (by kernel_rfl) (Zl nc fi fb ls fr nm fm ng gi gb gl gr k d x g h s1 s2 s3 s4 hc n3 m4 g6 e5 e6 e7 gq kq mk l2 dq di e1 e2 xq e3 e4).ok
  (bF (body:=bgB) (fun _ e=>by cases e) (Int.toNat (fr (Int.toNat k) 0 (Int.toNat (((ls (Int.toNat k) 0:Nat):Int)-1)) 0+1)) (fun i=>Iw x (dJ (az nc fi ls fr nm fm ng gi) nc (fun i=>ls i 0) (fun i=>fr i 0) k x) (bM 1 (az nc fi ls fr nm fm ng gi) nc (fun i=>ls i 0) (fun i=>fr i 0) k x) (nP (ls (Int.toNat k) 0) (fr (Int.toNat k) 0) x i) i) (fun i hi=>by
   have di:bJ (ls (Int.toNat k) 0) (fr (Int.toNat k) 0) i=true:=inD_t.mpr ⟨by omega,by rw [← et];omega⟩
   by_cases h2:aZ (ls (Int.toNat k) 0) (fr (Int.toNat k) 0) i≤x
   ·have eb:nP (ls (Int.toNat k) 0) (fr (Int.toNat k) 0) x (i+1)=(i:Int):=by
     show cond (ai (aZ (ls (Int.toNat k) 0) (fr (Int.toNat k) 0) (Int.ofNat i)) x) (Int.ofNat i) _=(i:Int)
     rw [(aW _ _).mpr (show aZ (ls (Int.toNat k) 0) (fr (Int.toNat k) 0) (Int.ofNat i)≤x from h2)];rfl
    rw [eb]
    exact aI au fA (WQ nc fi fb ls fr nm fm ng gi gb gl gr (bI (az nc fi ls fr nm fm ng gi) ng nc (fun i=>ls i 0) (fun i=>fr i 0) (fun i=>gi i 0) (fun i=>gi i 2) (fun i=>gi i 3) (fun i=>gb i 4) g 0) (bI (az nc fi ls fr nm fm ng gi) ng nc (fun i=>ls i 0) (fun i=>fr i 0) (fun i=>gi i 0) (fun i=>gi i 2) (fun i=>gi i 3) (fun i=>gb i 4) g 1) 0 0 (ls (Int.toNat k) 0) (fr (Int.toNat k) 0) (fi (Int.toNat k) 1) (fi (Int.toNat k) 2) (fi (Int.toNat k) 3) (fi (Int.toNat k) 4) x (dJ (az nc fi ls fr nm fm ng gi) nc (fun i=>ls i 0) (fun i=>fr i 0) k x) (bM 1 (az nc fi ls fr nm fm ng gi) nc (fun i=>ls i 0) (fun i=>fr i 0) k x) _ i mk l2 lb (by omega) di h2).ok (by kernel_rfl) (by kernel_rfl)
   ·have eb:nP (ls (Int.toNat k) 0) (fr (Int.toNat k) 0) x (i+1)=nP (ls (Int.toNat k) 0) (fr (Int.toNat k) 0) x i:=by
     show cond (ai (aZ (ls (Int.toNat k) 0) (fr (Int.toNat k) 0) (Int.ofNat i)) x) (Int.ofNat i) (nP (ls (Int.toNat k) 0) (fr (Int.toNat k) 0) x i)=_
     rw [(nV _ _).mpr (show x<aZ (ls (Int.toNat k) 0) (fr (Int.toNat k) 0) (Int.ofNat i) from by have h2:¬ aZ (ls (Int.toNat k) 0) (fr (Int.toNat k) 0) (Int.ofNat i)≤x:=h2;omega)];rfl
    rw [eb]
    exact aI au fA (XB nc fi fb ls fr nm fm ng gi gb gl gr (bI (az nc fi ls fr nm fm ng gi) ng nc (fun i=>ls i 0) (fun i=>fr i 0) (fun i=>gi i 0) (fun i=>gi i 2) (fun i=>gi i 3) (fun i=>gb i 4) g 0) (bI (az nc fi ls fr nm fm ng gi) ng nc (fun i=>ls i 0) (fun i=>fr i 0) (fun i=>gi i 0) (fun i=>gi i 2) (fun i=>gi i 3) (fun i=>gb i 4) g 1) 0 0 (ls (Int.toNat k) 0) (fr (Int.toNat k) 0) (fi (Int.toNat k) 1) (fi (Int.toNat k) 2) (fi (Int.toNat k) 3) (fi (Int.toNat k) 4) x (dJ (az nc fi ls fr nm fm ng gi) nc (fun i=>ls i 0) (fun i=>fr i 0) k x) (bM 1 (az nc fi ls fr nm fm ng gi) nc (fun i=>ls i 0) (fun i=>fr i 0) k x) _ i mk l2 lb (by omega) di h2).ok (by kernel_rfl) (by kernel_rfl))
   (aI au fA (XK nc fi fb ls fr nm fm ng gi gb gl gr (bI (az nc fi ls fr nm fm ng gi) ng nc (fun i=>ls i 0) (fun i=>fr i 0) (fun i=>gi i 0) (fun i=>gi i 2) (fun i=>gi i 3) (fun i=>gb i 4) g 0) (bI (az nc fi ls fr nm fm ng gi) ng nc (fun i=>ls i 0) (fun i=>fr i 0) (fun i=>gi i 0) (fun i=>gi i 2) (fun i=>gi i 3) (fun i=>gb i 4) g 1) 0 0 (ls (Int.toNat k) 0) (fr (Int.toNat k) 0) (fi (Int.toNat k) 1) (fi (Int.toNat k) 2) (fi (Int.toNat k) 3) (fi (Int.toNat k) 4) x (dJ (az nc fi ls fr nm fm ng gi) nc (fun i=>ls i 0) (fun i=>fr i 0) k x) (bM 1 (az nc fi ls fr nm fm ng gi) nc (fun i=>ls i 0) (fun i=>fr i 0) k x) _ _ mk l2 lb (by omega)).ok (by kernel_rfl) (by kernel_rfl)))
  (X5 nc fi fb ls fr nm fm ng gi gb gl gr (bI (az nc fi ls fr nm fm ng gi) ng nc (fun i=>ls i 0) (fun i=>fr i 0) (fun i=>gi i 0) (fun i=>gi i 2) (fun i=>gi i 3) (fun i=>gb i 4) g 0) (bI (az nc fi ls fr nm fm ng gi) ng nc (fun i=>ls i 0) (fun i=>fr i 0) (fun i=>gi i 0) (fun i=>gi i 2) (fun i=>gi i 3) (fun i=>gb i 4) g 1) 0 0 (ls (Int.toNat k) 0) (fr (Int.toNat k) 0) (fi (Int.toNat k) 1) (fi (Int.toNat k) 2) (fi (Int.toNat k) 3) (fi (Int.toNat k) 4) x (dJ (az nc fi ls fr nm fm ng gi) nc (fun i=>ls i 0) (fun i=>fr i 0) k x) (bM 1 (az nc fi ls fr nm fm ng gi) nc (fun i=>ls i 0) (fun i=>fr i 0) k x) _ h1 e4).ok
theorem Zd (k d x g:Int) (h:dU nc (fun i=>ls i 0) nm ng=true) (s1:nc≤5) (s2:nm≤7) (s3:ng≤9) (s4:dD nc (fun i=>ls i 0)=true) (hc:(az nc fi ls fr nm fm ng gi)=0) (n3:nc≤3) (m4:nm≤4) (g6:ng≤6) (e5:(bI (az nc fi ls fr nm fm ng gi) ng nc (fun i=>ls i 0) (fun i=>fr i 0) (fun i=>gi i 0) (fun i=>gi i 2) (fun i=>gi i 3) (fun i=>gb i 4) g 0)=iH (ls (Int.toNat (gi (Int.toNat g) 0)) 0) (fr (Int.toNat (gi (Int.toNat g) 0)) 0) (gi (Int.toNat g) 2) (gi (Int.toNat g) 3) (gb (Int.toNat g) 4)) (e6:(bI (az nc fi ls fr nm fm ng gi) ng nc (fun i=>ls i 0) (fun i=>fr i 0) (fun i=>gi i 0) (fun i=>gi i 2) (fun i=>gi i 3) (fun i=>gb i 4) g 1)=iG (ls (Int.toNat (gi (Int.toNat g) 0)) 0) (fr (Int.toNat (gi (Int.toNat g) 0)) 0) (gi (Int.toNat g) 2) (gi (Int.toNat g) 3) (gb (Int.toNat g) 4)) (e7:(lH (az nc fi ls fr nm fm ng gi) ng g)=0) (gq:0≤g∧g<ng) (gr2:rmB nc (fun i=>ls i 0) (fun i=>fr i 0) (gi (Int.toNat g) 0) (gi (Int.toNat g) 2) (gi (Int.toNat g) 3)=true) (kq:0≤k∧k<nc) (mk:cu (ls (Int.toNat k) 0) (fr (Int.toNat k) 0)=true) (l2:2≤(ls (Int.toNat k) 0)∧(ls (Int.toNat k) 0)≤5) (dq:¬ (0≤d∧d≤(fr (Int.toNat k) 0 (Int.toNat (((ls (Int.toNat k) 0:Nat):Int)-1)) 0))) (e1:(jI (az nc fi ls fr nm fm ng gi) nc (fun i=>ls i 0) (fun i=>fr i 0) k d)=0) (e2:(bM 0 (az nc fi ls fr nm fm ng gi) nc (fun i=>ls i 0) (fun i=>fr i 0) k d)=2) (xq:0≤x∧x≤(fr (Int.toNat k) 0 (Int.toNat (((ls (Int.toNat k) 0:Nat):Int)-1)) 1)) (e3:(dJ (az nc fi ls fr nm fm ng gi) nc (fun i=>ls i 0) (fun i=>fr i 0) k x)=rq (ls (Int.toNat k) 0) (fr (Int.toNat k) 0) x) (e4:(bM 1 (az nc fi ls fr nm fm ng gi) nc (fun i=>ls i 0) (fun i=>fr i 0) k x)=0) (x0:0≤x):(∃ v' H',SpecCall Try.prog 3 (enc [.st [.rw [.r 2,.i,.i,.i,.i] nc fi fb ls fr,.sl 4 nm fm,.rw [.i,.i,.i,.i,.b] ng gi gb gl gr],.one (.i .i64 k),.one (.i .i64 d),.one (.i .i64 x),.one (.i .i64 g)] 0) (aY 4) v' H'∧bC v' (.bool true)):=by
 have hM:=mkB_t.mp mk
 have et:=Jz l2.1
 have lb:0≤fr (Int.toNat k) 0 (Int.toNat (((ls (Int.toNat k) 0:Nat):Int)-1)) 0∧fr (Int.toNat k) 0 (Int.toNat (((ls (Int.toNat k) 0:Nat):Int)-1)) 0≤100:=by
  rw [et]
  exact ⟨(hM.pos (ls (Int.toNat k) 0-1) (by omega)).1,hM.l0⟩
 have hb:nP (ls (Int.toNat k) 0) (fr (Int.toNat k) 0) x (Int.toNat (fr (Int.toNat k) 0 (Int.toNat (((ls (Int.toNat k) 0:Nat):Int)-1)) 0+1))=rq (ls (Int.toNat k) 0) (fr (Int.toNat k) 0) x:=by
  rw [et]
  exact BV hM x0
 have h1:(dJ (az nc fi ls fr nm fm ng gi) nc (fun i=>ls i 0) (fun i=>fr i 0) k x)=nP (ls (Int.toNat k) 0) (fr (Int.toNat k) 0) x (Int.toNat (fr (Int.toNat k) 0 (Int.toNat (((ls (Int.toNat k) 0:Nat):Int)-1)) 0+1)):=by rw [hb];exact e3
 exact dn au fA (das:=[.st [.rw [.r 2,.i,.i,.i,.i] nc fi fb ls fr,.sl 4 nm fm,.rw [.i,.i,.i,.i,.b] ng gi gb gl gr],.one (.i .i64 k),.one (.i .i64 d),.one (.i .i64 x),.one (.i .i64 g)]) (lv:=xgB (dJ (az nc fi ls fr nm fm ng gi) nc (fun i=>ls i 0) (fun i=>fr i 0) k x) (bM 1 (az nc fi ls fr nm fm ng gi) nc (fun i=>ls i 0) (fun i=>fr i 0) k x) (nP (ls (Int.toNat k) 0) (fr (Int.toNat k) 0) x (Int.toNat (fr (Int.toNat k) 0 (Int.toNat (((ls (Int.toNat k) 0:Nat):Int)-1)) 0+1)))) (by kernel_rfl) (by kernel_rfl) (Ym nc fi fb ls fr nm fm ng gi gb gl gr k d x g h s1 s2 s3 s4 hc n3 m4 g6 e5 e6 e7 gq gr2 kq mk l2 dq e1 e2 xq e3 e4).ok
  (bF (body:=bgB) (fun _ e=>by cases e) (Int.toNat (fr (Int.toNat k) 0 (Int.toNat (((ls (Int.toNat k) 0:Nat):Int)-1)) 0+1)) (fun i=>JA x (dJ (az nc fi ls fr nm fm ng gi) nc (fun i=>ls i 0) (fun i=>fr i 0) k x) (bM 1 (az nc fi ls fr nm fm ng gi) nc (fun i=>ls i 0) (fun i=>fr i 0) k x) (nP (ls (Int.toNat k) 0) (fr (Int.toNat k) 0) x i) i) (fun i hi=>by
   have di:bJ (ls (Int.toNat k) 0) (fr (Int.toNat k) 0) i=true:=inD_t.mpr ⟨by omega,by rw [← et];omega⟩
   by_cases h2:aZ (ls (Int.toNat k) 0) (fr (Int.toNat k) 0) i≤x
   ·have eb:nP (ls (Int.toNat k) 0) (fr (Int.toNat k) 0) x (i+1)=(i:Int):=by
     show cond (ai (aZ (ls (Int.toNat k) 0) (fr (Int.toNat k) 0) (Int.ofNat i)) x) (Int.ofNat i) _=(i:Int)
     rw [(aW _ _).mpr (show aZ (ls (Int.toNat k) 0) (fr (Int.toNat k) 0) (Int.ofNat i)≤x from h2)];rfl
    rw [eb]
    exact aI au fA (X4 nc fi fb ls fr nm fm ng gi gb gl gr (bI (az nc fi ls fr nm fm ng gi) ng nc (fun i=>ls i 0) (fun i=>fr i 0) (fun i=>gi i 0) (fun i=>gi i 2) (fun i=>gi i 3) (fun i=>gb i 4) g 0) (bI (az nc fi ls fr nm fm ng gi) ng nc (fun i=>ls i 0) (fun i=>fr i 0) (fun i=>gi i 0) (fun i=>gi i 2) (fun i=>gi i 3) (fun i=>gb i 4) g 1) (iH (ls (Int.toNat (gi (Int.toNat g) 0)) 0) (fr (Int.toNat (gi (Int.toNat g) 0)) 0) (gi (Int.toNat g) 2) (gi (Int.toNat g) 3) (gb (Int.toNat g) 4)) (iG (ls (Int.toNat (gi (Int.toNat g) 0)) 0) (fr (Int.toNat (gi (Int.toNat g) 0)) 0) (gi (Int.toNat g) 2) (gi (Int.toNat g) 3) (gb (Int.toNat g) 4)) (ls (Int.toNat k) 0) (fr (Int.toNat k) 0) (fi (Int.toNat k) 1) (fi (Int.toNat k) 2) (fi (Int.toNat k) 3) (fi (Int.toNat k) 4) x (dJ (az nc fi ls fr nm fm ng gi) nc (fun i=>ls i 0) (fun i=>fr i 0) k x) (bM 1 (az nc fi ls fr nm fm ng gi) nc (fun i=>ls i 0) (fun i=>fr i 0) k x) _ i mk l2 lb (by omega) di h2).ok (by kernel_rfl) (by kernel_rfl)
   ·have eb:nP (ls (Int.toNat k) 0) (fr (Int.toNat k) 0) x (i+1)=nP (ls (Int.toNat k) 0) (fr (Int.toNat k) 0) x i:=by
     show cond (ai (aZ (ls (Int.toNat k) 0) (fr (Int.toNat k) 0) (Int.ofNat i)) x) (Int.ofNat i) (nP (ls (Int.toNat k) 0) (fr (Int.toNat k) 0) x i)=_
     rw [(nV _ _).mpr (show x<aZ (ls (Int.toNat k) 0) (fr (Int.toNat k) 0) (Int.ofNat i) from by have h2:¬ aZ (ls (Int.toNat k) 0) (fr (Int.toNat k) 0) (Int.ofNat i)≤x:=h2;omega)];rfl
    rw [eb]
    exact aI au fA (X8 nc fi fb ls fr nm fm ng gi gb gl gr (bI (az nc fi ls fr nm fm ng gi) ng nc (fun i=>ls i 0) (fun i=>fr i 0) (fun i=>gi i 0) (fun i=>gi i 2) (fun i=>gi i 3) (fun i=>gb i 4) g 0) (bI (az nc fi ls fr nm fm ng gi) ng nc (fun i=>ls i 0) (fun i=>fr i 0) (fun i=>gi i 0) (fun i=>gi i 2) (fun i=>gi i 3) (fun i=>gb i 4) g 1) (iH (ls (Int.toNat (gi (Int.toNat g) 0)) 0) (fr (Int.toNat (gi (Int.toNat g) 0)) 0) (gi (Int.toNat g) 2) (gi (Int.toNat g) 3) (gb (Int.toNat g) 4)) (iG (ls (Int.toNat (gi (Int.toNat g) 0)) 0) (fr (Int.toNat (gi (Int.toNat g) 0)) 0) (gi (Int.toNat g) 2) (gi (Int.toNat g) 3) (gb (Int.toNat g) 4)) (ls (Int.toNat k) 0) (fr (Int.toNat k) 0) (fi (Int.toNat k) 1) (fi (Int.toNat k) 2) (fi (Int.toNat k) 3) (fi (Int.toNat k) 4) x (dJ (az nc fi ls fr nm fm ng gi) nc (fun i=>ls i 0) (fun i=>fr i 0) k x) (bM 1 (az nc fi ls fr nm fm ng gi) nc (fun i=>ls i 0) (fun i=>fr i 0) k x) _ i mk l2 lb (by omega) di h2).ok (by kernel_rfl) (by kernel_rfl))
   (aI au fA (WZ nc fi fb ls fr nm fm ng gi gb gl gr (bI (az nc fi ls fr nm fm ng gi) ng nc (fun i=>ls i 0) (fun i=>fr i 0) (fun i=>gi i 0) (fun i=>gi i 2) (fun i=>gi i 3) (fun i=>gb i 4) g 0) (bI (az nc fi ls fr nm fm ng gi) ng nc (fun i=>ls i 0) (fun i=>fr i 0) (fun i=>gi i 0) (fun i=>gi i 2) (fun i=>gi i 3) (fun i=>gb i 4) g 1) (iH (ls (Int.toNat (gi (Int.toNat g) 0)) 0) (fr (Int.toNat (gi (Int.toNat g) 0)) 0) (gi (Int.toNat g) 2) (gi (Int.toNat g) 3) (gb (Int.toNat g) 4)) (iG (ls (Int.toNat (gi (Int.toNat g) 0)) 0) (fr (Int.toNat (gi (Int.toNat g) 0)) 0) (gi (Int.toNat g) 2) (gi (Int.toNat g) 3) (gb (Int.toNat g) 4)) (ls (Int.toNat k) 0) (fr (Int.toNat k) 0) (fi (Int.toNat k) 1) (fi (Int.toNat k) 2) (fi (Int.toNat k) 3) (fi (Int.toNat k) 4) x (dJ (az nc fi ls fr nm fm ng gi) nc (fun i=>ls i 0) (fun i=>fr i 0) k x) (bM 1 (az nc fi ls fr nm fm ng gi) nc (fun i=>ls i 0) (fun i=>fr i 0) k x) _ _ mk l2 lb (by omega)).ok (by kernel_rfl) (by kernel_rfl)))
  (Xt nc fi fb ls fr nm fm ng gi gb gl gr (bI (az nc fi ls fr nm fm ng gi) ng nc (fun i=>ls i 0) (fun i=>fr i 0) (fun i=>gi i 0) (fun i=>gi i 2) (fun i=>gi i 3) (fun i=>gb i 4) g 0) (bI (az nc fi ls fr nm fm ng gi) ng nc (fun i=>ls i 0) (fun i=>fr i 0) (fun i=>gi i 0) (fun i=>gi i 2) (fun i=>gi i 3) (fun i=>gb i 4) g 1) (iH (ls (Int.toNat (gi (Int.toNat g) 0)) 0) (fr (Int.toNat (gi (Int.toNat g) 0)) 0) (gi (Int.toNat g) 2) (gi (Int.toNat g) 3) (gb (Int.toNat g) 4)) (iG (ls (Int.toNat (gi (Int.toNat g) 0)) 0) (fr (Int.toNat (gi (Int.toNat g) 0)) 0) (gi (Int.toNat g) 2) (gi (Int.toNat g) 3) (gb (Int.toNat g) 4)) (ls (Int.toNat k) 0) (fr (Int.toNat k) 0) (fi (Int.toNat k) 1) (fi (Int.toNat k) 2) (fi (Int.toNat k) 3) (fi (Int.toNat k) 4) x (dJ (az nc fi ls fr nm fm ng gi) nc (fun i=>ls i 0) (fun i=>fr i 0) k x) (bM 1 (az nc fi ls fr nm fm ng gi) nc (fun i=>ls i 0) (fun i=>fr i 0) k x) _ h1 e4).ok
theorem Y9 (k d x g:Int) (h:dU nc (fun i=>ls i 0) nm ng=true) (s1:nc≤5) (s2:nm≤7) (s3:ng≤9) (s4:dD nc (fun i=>ls i 0)=true) (hc:(az nc fi ls fr nm fm ng gi)=0) (n3:nc≤3) (m4:nm≤4) (g6:ng≤6) (e5:(bI (az nc fi ls fr nm fm ng gi) ng nc (fun i=>ls i 0) (fun i=>fr i 0) (fun i=>gi i 0) (fun i=>gi i 2) (fun i=>gi i 3) (fun i=>gb i 4) g 0)=iH (ls (Int.toNat (gi (Int.toNat g) 0)) 0) (fr (Int.toNat (gi (Int.toNat g) 0)) 0) (gi (Int.toNat g) 2) (gi (Int.toNat g) 3) (gb (Int.toNat g) 4)) (e6:(bI (az nc fi ls fr nm fm ng gi) ng nc (fun i=>ls i 0) (fun i=>fr i 0) (fun i=>gi i 0) (fun i=>gi i 2) (fun i=>gi i 3) (fun i=>gb i 4) g 1)=iG (ls (Int.toNat (gi (Int.toNat g) 0)) 0) (fr (Int.toNat (gi (Int.toNat g) 0)) 0) (gi (Int.toNat g) 2) (gi (Int.toNat g) 3) (gb (Int.toNat g) 4)) (e7:(lH (az nc fi ls fr nm fm ng gi) ng g)=0) (gq:0≤g∧g<ng) (gr2:rmB nc (fun i=>ls i 0) (fun i=>fr i 0) (gi (Int.toNat g) 0) (gi (Int.toNat g) 2) (gi (Int.toNat g) 3)=true) (kq:0≤k∧k<nc) (mk:cu (ls (Int.toNat k) 0) (fr (Int.toNat k) 0)=true) (l2:2≤(ls (Int.toNat k) 0)∧(ls (Int.toNat k) 0)≤5) (dq:0≤d∧d≤(fr (Int.toNat k) 0 (Int.toNat (((ls (Int.toNat k) 0:Nat):Int)-1)) 0)) (di:bJ (ls (Int.toNat k) 0) (fr (Int.toNat k) 0) d=true) (e1:(jI (az nc fi ls fr nm fm ng gi) nc (fun i=>ls i 0) (fun i=>fr i 0) k d)=aZ (ls (Int.toNat k) 0) (fr (Int.toNat k) 0) d) (e2:(bM 0 (az nc fi ls fr nm fm ng gi) nc (fun i=>ls i 0) (fun i=>fr i 0) k d)=0) (xq:0≤x∧x≤(fr (Int.toNat k) 0 (Int.toNat (((ls (Int.toNat k) 0:Nat):Int)-1)) 1)) (e3:(dJ (az nc fi ls fr nm fm ng gi) nc (fun i=>ls i 0) (fun i=>fr i 0) k x)=rq (ls (Int.toNat k) 0) (fr (Int.toNat k) 0) x) (e4:(bM 1 (az nc fi ls fr nm fm ng gi) nc (fun i=>ls i 0) (fun i=>fr i 0) k x)=0) (x0:0≤x):(∃ v' H',SpecCall Try.prog 3 (enc [.st [.rw [.r 2,.i,.i,.i,.i] nc fi fb ls fr,.sl 4 nm fm,.rw [.i,.i,.i,.i,.b] ng gi gb gl gr],.one (.i .i64 k),.one (.i .i64 d),.one (.i .i64 x),.one (.i .i64 g)] 0) (aY 4) v' H'∧bC v' (.bool true)):=by
 have hM:=mkB_t.mp mk
 have et:=Jz l2.1
 have lb:0≤fr (Int.toNat k) 0 (Int.toNat (((ls (Int.toNat k) 0:Nat):Int)-1)) 0∧fr (Int.toNat k) 0 (Int.toNat (((ls (Int.toNat k) 0:Nat):Int)-1)) 0≤100:=by
  rw [et]
  exact ⟨(hM.pos (ls (Int.toNat k) 0-1) (by omega)).1,hM.l0⟩
 have hb:nP (ls (Int.toNat k) 0) (fr (Int.toNat k) 0) x (Int.toNat (fr (Int.toNat k) 0 (Int.toNat (((ls (Int.toNat k) 0:Nat):Int)-1)) 0+1))=rq (ls (Int.toNat k) 0) (fr (Int.toNat k) 0) x:=by
  rw [et]
  exact BV hM x0
 have h1:(dJ (az nc fi ls fr nm fm ng gi) nc (fun i=>ls i 0) (fun i=>fr i 0) k x)=nP (ls (Int.toNat k) 0) (fr (Int.toNat k) 0) x (Int.toNat (fr (Int.toNat k) 0 (Int.toNat (((ls (Int.toNat k) 0:Nat):Int)-1)) 0+1)):=by rw [hb];exact e3
 exact dn au fA (das:=[.st [.rw [.r 2,.i,.i,.i,.i] nc fi fb ls fr,.sl 4 nm fm,.rw [.i,.i,.i,.i,.b] ng gi gb gl gr],.one (.i .i64 k),.one (.i .i64 d),.one (.i .i64 x),.one (.i .i64 g)]) (lv:=xgB (dJ (az nc fi ls fr nm fm ng gi) nc (fun i=>ls i 0) (fun i=>fr i 0) k x) (bM 1 (az nc fi ls fr nm fm ng gi) nc (fun i=>ls i 0) (fun i=>fr i 0) k x) (nP (ls (Int.toNat k) 0) (fr (Int.toNat k) 0) x (Int.toNat (fr (Int.toNat k) 0 (Int.toNat (((ls (Int.toNat k) 0:Nat):Int)-1)) 0+1)))) (by kernel_rfl) (by kernel_rfl) (Yz nc fi fb ls fr nm fm ng gi gb gl gr k d x g h s1 s2 s3 s4 hc n3 m4 g6 e5 e6 e7 gq gr2 kq mk l2 dq di e1 e2 xq e3 e4).ok
  (bF (body:=bgB) (fun _ e=>by cases e) (Int.toNat (fr (Int.toNat k) 0 (Int.toNat (((ls (Int.toNat k) 0:Nat):Int)-1)) 0+1)) (fun i=>JG x (dJ (az nc fi ls fr nm fm ng gi) nc (fun i=>ls i 0) (fun i=>fr i 0) k x) (bM 1 (az nc fi ls fr nm fm ng gi) nc (fun i=>ls i 0) (fun i=>fr i 0) k x) (nP (ls (Int.toNat k) 0) (fr (Int.toNat k) 0) x i) i) (fun i hi=>by
   have di:bJ (ls (Int.toNat k) 0) (fr (Int.toNat k) 0) i=true:=inD_t.mpr ⟨by omega,by rw [← et];omega⟩
   by_cases h2:aZ (ls (Int.toNat k) 0) (fr (Int.toNat k) 0) i≤x
   ·have eb:nP (ls (Int.toNat k) 0) (fr (Int.toNat k) 0) x (i+1)=(i:Int):=by
     show cond (ai (aZ (ls (Int.toNat k) 0) (fr (Int.toNat k) 0) (Int.ofNat i)) x) (Int.ofNat i) _=(i:Int)
     rw [(aW _ _).mpr (show aZ (ls (Int.toNat k) 0) (fr (Int.toNat k) 0) (Int.ofNat i)≤x from h2)];rfl
    rw [eb]
    exact aI au fA (X9 nc fi fb ls fr nm fm ng gi gb gl gr (bI (az nc fi ls fr nm fm ng gi) ng nc (fun i=>ls i 0) (fun i=>fr i 0) (fun i=>gi i 0) (fun i=>gi i 2) (fun i=>gi i 3) (fun i=>gb i 4) g 0) (bI (az nc fi ls fr nm fm ng gi) ng nc (fun i=>ls i 0) (fun i=>fr i 0) (fun i=>gi i 0) (fun i=>gi i 2) (fun i=>gi i 3) (fun i=>gb i 4) g 1) (iH (ls (Int.toNat (gi (Int.toNat g) 0)) 0) (fr (Int.toNat (gi (Int.toNat g) 0)) 0) (gi (Int.toNat g) 2) (gi (Int.toNat g) 3) (gb (Int.toNat g) 4)) (iG (ls (Int.toNat (gi (Int.toNat g) 0)) 0) (fr (Int.toNat (gi (Int.toNat g) 0)) 0) (gi (Int.toNat g) 2) (gi (Int.toNat g) 3) (gb (Int.toNat g) 4)) (ls (Int.toNat k) 0) (fr (Int.toNat k) 0) (fi (Int.toNat k) 1) (fi (Int.toNat k) 2) (fi (Int.toNat k) 3) (fi (Int.toNat k) 4) x (dJ (az nc fi ls fr nm fm ng gi) nc (fun i=>ls i 0) (fun i=>fr i 0) k x) (bM 1 (az nc fi ls fr nm fm ng gi) nc (fun i=>ls i 0) (fun i=>fr i 0) k x) _ i mk l2 lb (by omega) di h2).ok (by kernel_rfl) (by kernel_rfl)
   ·have eb:nP (ls (Int.toNat k) 0) (fr (Int.toNat k) 0) x (i+1)=nP (ls (Int.toNat k) 0) (fr (Int.toNat k) 0) x i:=by
     show cond (ai (aZ (ls (Int.toNat k) 0) (fr (Int.toNat k) 0) (Int.ofNat i)) x) (Int.ofNat i) (nP (ls (Int.toNat k) 0) (fr (Int.toNat k) 0) x i)=_
     rw [(nV _ _).mpr (show x<aZ (ls (Int.toNat k) 0) (fr (Int.toNat k) 0) (Int.ofNat i) from by have h2:¬ aZ (ls (Int.toNat k) 0) (fr (Int.toNat k) 0) (Int.ofNat i)≤x:=h2;omega)];rfl
    rw [eb]
    exact aI au fA (Xr nc fi fb ls fr nm fm ng gi gb gl gr (bI (az nc fi ls fr nm fm ng gi) ng nc (fun i=>ls i 0) (fun i=>fr i 0) (fun i=>gi i 0) (fun i=>gi i 2) (fun i=>gi i 3) (fun i=>gb i 4) g 0) (bI (az nc fi ls fr nm fm ng gi) ng nc (fun i=>ls i 0) (fun i=>fr i 0) (fun i=>gi i 0) (fun i=>gi i 2) (fun i=>gi i 3) (fun i=>gb i 4) g 1) (iH (ls (Int.toNat (gi (Int.toNat g) 0)) 0) (fr (Int.toNat (gi (Int.toNat g) 0)) 0) (gi (Int.toNat g) 2) (gi (Int.toNat g) 3) (gb (Int.toNat g) 4)) (iG (ls (Int.toNat (gi (Int.toNat g) 0)) 0) (fr (Int.toNat (gi (Int.toNat g) 0)) 0) (gi (Int.toNat g) 2) (gi (Int.toNat g) 3) (gb (Int.toNat g) 4)) (ls (Int.toNat k) 0) (fr (Int.toNat k) 0) (fi (Int.toNat k) 1) (fi (Int.toNat k) 2) (fi (Int.toNat k) 3) (fi (Int.toNat k) 4) x (dJ (az nc fi ls fr nm fm ng gi) nc (fun i=>ls i 0) (fun i=>fr i 0) k x) (bM 1 (az nc fi ls fr nm fm ng gi) nc (fun i=>ls i 0) (fun i=>fr i 0) k x) _ i mk l2 lb (by omega) di h2).ok (by kernel_rfl) (by kernel_rfl))
   (aI au fA (Xa nc fi fb ls fr nm fm ng gi gb gl gr (bI (az nc fi ls fr nm fm ng gi) ng nc (fun i=>ls i 0) (fun i=>fr i 0) (fun i=>gi i 0) (fun i=>gi i 2) (fun i=>gi i 3) (fun i=>gb i 4) g 0) (bI (az nc fi ls fr nm fm ng gi) ng nc (fun i=>ls i 0) (fun i=>fr i 0) (fun i=>gi i 0) (fun i=>gi i 2) (fun i=>gi i 3) (fun i=>gb i 4) g 1) (iH (ls (Int.toNat (gi (Int.toNat g) 0)) 0) (fr (Int.toNat (gi (Int.toNat g) 0)) 0) (gi (Int.toNat g) 2) (gi (Int.toNat g) 3) (gb (Int.toNat g) 4)) (iG (ls (Int.toNat (gi (Int.toNat g) 0)) 0) (fr (Int.toNat (gi (Int.toNat g) 0)) 0) (gi (Int.toNat g) 2) (gi (Int.toNat g) 3) (gb (Int.toNat g) 4)) (ls (Int.toNat k) 0) (fr (Int.toNat k) 0) (fi (Int.toNat k) 1) (fi (Int.toNat k) 2) (fi (Int.toNat k) 3) (fi (Int.toNat k) 4) x (dJ (az nc fi ls fr nm fm ng gi) nc (fun i=>ls i 0) (fun i=>fr i 0) k x) (bM 1 (az nc fi ls fr nm fm ng gi) nc (fun i=>ls i 0) (fun i=>fr i 0) k x) _ _ mk l2 lb (by omega)).ok (by kernel_rfl) (by kernel_rfl)))
  (WY nc fi fb ls fr nm fm ng gi gb gl gr (bI (az nc fi ls fr nm fm ng gi) ng nc (fun i=>ls i 0) (fun i=>fr i 0) (fun i=>gi i 0) (fun i=>gi i 2) (fun i=>gi i 3) (fun i=>gb i 4) g 0) (bI (az nc fi ls fr nm fm ng gi) ng nc (fun i=>ls i 0) (fun i=>fr i 0) (fun i=>gi i 0) (fun i=>gi i 2) (fun i=>gi i 3) (fun i=>gb i 4) g 1) (iH (ls (Int.toNat (gi (Int.toNat g) 0)) 0) (fr (Int.toNat (gi (Int.toNat g) 0)) 0) (gi (Int.toNat g) 2) (gi (Int.toNat g) 3) (gb (Int.toNat g) 4)) (iG (ls (Int.toNat (gi (Int.toNat g) 0)) 0) (fr (Int.toNat (gi (Int.toNat g) 0)) 0) (gi (Int.toNat g) 2) (gi (Int.toNat g) 3) (gb (Int.toNat g) 4)) (ls (Int.toNat k) 0) (fr (Int.toNat k) 0) (fi (Int.toNat k) 1) (fi (Int.toNat k) 2) (fi (Int.toNat k) 3) (fi (Int.toNat k) 4) x (dJ (az nc fi ls fr nm fm ng gi) nc (fun i=>ls i 0) (fun i=>fr i 0) k x) (bM 1 (az nc fi ls fr nm fm ng gi) nc (fun i=>ls i 0) (fun i=>fr i 0) k x) _ h1 e4).ok
theorem YY:zA Try.prog 3 Uo:=by
 intro das v hv
 unfold Uo at hv
 split at hv
 ·rename_i nc fi fb ls fr nm fm ng gi gb gl gr k d x g
  have hv:=congrArg Prod.snd (Option.some.inj hv)
  subst hv
  refine ⟨rfl,?_⟩
  cases h:dU nc (fun i=>ls i 0) nm ng with
  | false=>exact (aJ au fA rfl (das:=[.st [.rw [.r 2,.i,.i,.i,.i] nc fi fb ls fr,.sl 4 nm fm,.rw [.i,.i,.i,.i,.b] ng gi gb gl gr],.one (.i .i64 k),.one (.i .i64 d),.one (.i .i64 x),.one (.i .i64 g)]) (ga nc fi fb ls fr nm fm ng gi gb gl gr k d x g h)).2
  | true =>
   obtain ⟨s1,s2,s3,hl⟩:=CV.th_get nc fi fb ls fr nm fm ng gi gb gl gr h
   have s4:dD nc (fun i=>ls i 0)=true:=bu fun i hi=>Nat.ble_eq_true_of_le (by have:=hl i hi;show ls i 0≤1000;omega)
   by_cases hc:(az nc fi ls fr nm fm ng gi)=0
   ·have ok:=KN nc (fun i=>ls i 0) (fun i=>fr i 0) (fun i=>fi i 1) (fun i=>fi i 2) (fun i=>fi i 3) (fun i=>fi i 4) nm fm ng (fun i=>gi i 0) (fun i=>gi i 1) (fun i=>gi i 2) (fun i=>gi i 3) hc
    have n3:=ok.n3
    have m4:=ok.m4
    have g6:=ok.g6
    have he:aK (az nc fi ls fr nm fm ng gi) 0=true:=(dw _ _).mpr hc
    -- outside: nothing, and the error 2
    have oN:∀ y,Bc nc (fun i=>ls i 0) (fun i=>fr i 0) 0 k y=false→jI (az nc fi ls fr nm fm ng gi) nc (fun i=>ls i 0) (fun i=>fr i 0) k y=0∧bM 0 (az nc fi ls fr nm fm ng gi) nc (fun i=>ls i 0) (fun i=>fr i 0) k y=2:=fun y q=>by
     unfold jI bM
     rw [he,q];exact ⟨rfl,rfl⟩
    have oD:∀ y,Bc nc (fun i=>ls i 0) (fun i=>fr i 0) 1 k y=false→dJ (az nc fi ls fr nm fm ng gi) nc (fun i=>ls i 0) (fun i=>fr i 0) k y=0∧bM 1 (az nc fi ls fr nm fm ng gi) nc (fun i=>ls i 0) (fun i=>fr i 0) k y=2:=fun y q=>by
     unfold dJ bM
     rw [he,q];exact ⟨rfl,rfl⟩
    have iN:∀ y,Bc nc (fun i=>ls i 0) (fun i=>fr i 0) 0 k y=true→jI (az nc fi ls fr nm fm ng gi) nc (fun i=>ls i 0) (fun i=>fr i 0) k y=aZ (ls (Int.toNat k) 0) (fr (Int.toNat k) 0) y∧bM 0 (az nc fi ls fr nm fm ng gi) nc (fun i=>ls i 0) (fun i=>fr i 0) k y=0:=fun y q=>by
     unfold jI bM
     rw [he,q];exact ⟨rfl,rfl⟩
    have iD:∀ y,Bc nc (fun i=>ls i 0) (fun i=>fr i 0) 1 k y=true→dJ (az nc fi ls fr nm fm ng gi) nc (fun i=>ls i 0) (fun i=>fr i 0) k y=rq (ls (Int.toNat k) 0) (fr (Int.toNat k) 0) y∧bM 1 (az nc fi ls fr nm fm ng gi) nc (fun i=>ls i 0) (fun i=>fr i 0) k y=0:=fun y q=>by
     unfold dJ bM
     rw [he,q];exact ⟨rfl,rfl⟩
    have kO:∀ (kq:¬ (0≤k∧k<nc)) (j:Nat) y,Bc nc (fun i=>ls i 0) (fun i=>fr i 0) j k y=false:=fun kq j y=>coO (e:=0) rfl (fun q=>kq ⟨q.1,q.2.1⟩)
    by_cases gq:0≤g∧g<ng
    ·have hG:inG ng g=true:=inG_t.mpr gq
     have e5:(bI (az nc fi ls fr nm fm ng gi) ng nc (fun i=>ls i 0) (fun i=>fr i 0) (fun i=>gi i 0) (fun i=>gi i 2) (fun i=>gi i 3) (fun i=>gb i 4) g 0)=iH (ls (Int.toNat (gi (Int.toNat g) 0)) 0) (fr (Int.toNat (gi (Int.toNat g) 0)) 0) (gi (Int.toNat g) 2) (gi (Int.toNat g) 3) (gb (Int.toNat g) 4):=by unfold bI;rw [he,hG];rfl
     have e6:(bI (az nc fi ls fr nm fm ng gi) ng nc (fun i=>ls i 0) (fun i=>fr i 0) (fun i=>gi i 0) (fun i=>gi i 2) (fun i=>gi i 3) (fun i=>gb i 4) g 1)=iG (ls (Int.toNat (gi (Int.toNat g) 0)) 0) (fr (Int.toNat (gi (Int.toNat g) 0)) 0) (gi (Int.toNat g) 2) (gi (Int.toNat g) 3) (gb (Int.toNat g) 4):=by unfold bI;rw [he,hG];rfl
     have e7:(lH (az nc fi ls fr nm fm ng gi) ng g)=0:=by unfold lH;rw [he,hG];rfl
     have gr2:rmB nc (fun i=>ls i 0) (fun i=>fr i 0) (gi (Int.toNat g) 0) (gi (Int.toNat g) 2) (gi (Int.toNat g) 3)=true:=by
      have hln:=Lt ok.five ok.ak
      obtain ⟨a1,a2,a3,a4,a5,a6,a7,a8,a9⟩:=(zS hln).mp (aQ ok.ag (Int.toNat g) (by omega))
      have a1:0≤gi (Int.toNat g) 0:=a1
      have a2:gi (Int.toNat g) 0<nc:=a2
      have a6:0≤gi (Int.toNat g) 2:=a6
      have a7:gi (Int.toNat g) 2≤fr (Int.toNat (gi (Int.toNat g) 0)) 0 (Int.toNat (((ls (Int.toNat (gi (Int.toNat g) 0)) 0:Nat):Int)-1)) 0:=a7
      have a8:0≤gi (Int.toNat g) 3:=a8
      have a9:gi (Int.toNat g) 3≤fr (Int.toNat (gi (Int.toNat g) 0)) 0 (Int.toNat (((ls (Int.toNat (gi (Int.toNat g) 0)) 0:Nat):Int)-1)) 0:=a9
      obtain ⟨b1,b2,b3⟩:=ok.mk1 (i:=(Int.toNat (gi (Int.toNat g) 0))) (by omega)
      have b2:2≤ls (Int.toNat (gi (Int.toNat g) 0)) 0:=b2
      have b3:ls (Int.toNat (gi (Int.toNat g) 0)) 0≤5:=b3
      have et:=Jz b2
      rw [et] at a7 a9
      unfold rmB
      rw [(aW _ _).mpr a1,(aW _ _).mpr (show gi (Int.toNat g) 0+1≤Int.ofNat nc by simp only [Int.ofNat_eq_natCast];omega),Nat.ble_eq_true_of_le n3,b1,Nat.ble_eq_true_of_le (show (fun i=>ls i 0) (Int.toNat (gi (Int.toNat g) 0))≤5 from b3),inD_t.mpr ⟨a6,a7⟩,inD_t.mpr ⟨a8,a9⟩];rfl
     by_cases kq:0≤k∧k<nc
     ·obtain ⟨mk,b2,b3⟩:=ok.mk1 (i:=Int.toNat k) (by omega)
      have l2:2≤(ls (Int.toNat k) 0)∧(ls (Int.toNat k) 0)≤5:=⟨b2,b3⟩
      have et:=Jz l2.1
      have inK':∀ (j:Nat) y,Bc nc (fun i=>ls i 0) (fun i=>fr i 0) j k y=true↔0≤y∧y≤fr (Int.toNat k) 0 (Int.toNat (((ls (Int.toNat k) 0:Nat):Int)-1)) j:=fun j y=>by
       rw [inK_t,et]
       exact ⟨fun q=>⟨q.2.2.1,q.2.2.2⟩,fun q=>⟨kq.1,kq.2,q.1,q.2⟩⟩
      have outK:∀ (j:Nat) y,¬ (0≤y∧y≤fr (Int.toNat k) 0 (Int.toNat (((ls (Int.toNat k) 0:Nat):Int)-1)) j)→Bc nc (fun i=>ls i 0) (fun i=>fr i 0) j k y=false:=fun j y q=>by
       cases z:Bc nc (fun i=>ls i 0) (fun i=>fr i 0) j k y with
       | false=>rfl
       | true=>exact absurd ((inK' j y).mp z) q
      by_cases dq:0≤d∧d≤fr (Int.toNat k) 0 (Int.toNat (((ls (Int.toNat k) 0:Nat):Int)-1)) 0
      ·have z:=iN d ((inK' 0 d).mpr dq)
       have di:bJ (ls (Int.toNat k) 0) (fr (Int.toNat k) 0) d=true:=inD_t.mpr ⟨dq.1,by rw [← et];exact dq.2⟩
       by_cases xq:0≤x∧x≤fr (Int.toNat k) 0 (Int.toNat (((ls (Int.toNat k) 0:Nat):Int)-1)) 1
       ·have y:=iD x ((inK' 1 x).mpr xq)
        exact Y9 nc fi fb ls fr nm fm ng gi gb gl gr k d x g h s1 s2 s3 s4 hc n3 m4 g6 e5 e6 e7 gq gr2 kq mk l2 dq di z.1 z.2 xq y.1 y.2 xq.1
       ·have y:=oD x (outK 1 x xq)
        exact (aJ au fA rfl (das:=[.st [.rw [.r 2,.i,.i,.i,.i] nc fi fb ls fr,.sl 4 nm fm,.rw [.i,.i,.i,.i,.b] ng gi gb gl gr],.one (.i .i64 k),.one (.i .i64 d),.one (.i .i64 x),.one (.i .i64 g)]) (YM nc fi fb ls fr nm fm ng gi gb gl gr k d x g h s1 s2 s3 s4 hc n3 m4 g6 e5 e6 e7 gq gr2 kq mk l2 dq di z.1 z.2 xq y.1 y.2)).2
      ·have z:=oN d (outK 0 d dq)
       by_cases xq:0≤x∧x≤fr (Int.toNat k) 0 (Int.toNat (((ls (Int.toNat k) 0:Nat):Int)-1)) 1
       ·have y:=iD x ((inK' 1 x).mpr xq)
        exact Zd nc fi fb ls fr nm fm ng gi gb gl gr k d x g h s1 s2 s3 s4 hc n3 m4 g6 e5 e6 e7 gq gr2 kq mk l2 dq z.1 z.2 xq y.1 y.2 xq.1
       ·have y:=oD x (outK 1 x xq)
        exact (aJ au fA rfl (das:=[.st [.rw [.r 2,.i,.i,.i,.i] nc fi fb ls fr,.sl 4 nm fm,.rw [.i,.i,.i,.i,.b] ng gi gb gl gr],.one (.i .i64 k),.one (.i .i64 d),.one (.i .i64 x),.one (.i .i64 g)]) (YI nc fi fb ls fr nm fm ng gi gb gl gr k d x g h s1 s2 s3 s4 hc n3 m4 g6 e5 e6 e7 gq gr2 kq mk l2 dq z.1 z.2 xq y.1 y.2)).2
     ·exact (aJ au fA rfl (das:=[.st [.rw [.r 2,.i,.i,.i,.i] nc fi fb ls fr,.sl 4 nm fm,.rw [.i,.i,.i,.i,.b] ng gi gb gl gr],.one (.i .i64 k),.one (.i .i64 d),.one (.i .i64 x),.one (.i .i64 g)]) (gci nc fi fb ls fr nm fm ng gi gb gl gr k d x g h s1 s2 s3 s4 hc n3 m4 g6 e5 e6 e7 gq gr2 kq (oN d (kO kq 0 d)).1 (oN d (kO kq 0 d)).2 (oD x (kO kq 1 x)).1 (oD x (kO kq 1 x)).2)).2
    ·have hG:inG ng g=false:=by
      cases q:inG ng g with
      | false=>rfl
      | true=>exact absurd (inG_t.mp q) gq
     have e5:(bI (az nc fi ls fr nm fm ng gi) ng nc (fun i=>ls i 0) (fun i=>fr i 0) (fun i=>gi i 0) (fun i=>gi i 2) (fun i=>gi i 3) (fun i=>gb i 4) g 0)=0:=by unfold bI;rw [he,hG];rfl
     have e6:(bI (az nc fi ls fr nm fm ng gi) ng nc (fun i=>ls i 0) (fun i=>fr i 0) (fun i=>gi i 0) (fun i=>gi i 2) (fun i=>gi i 3) (fun i=>gb i 4) g 1)=0:=by unfold bI;rw [he,hG];rfl
     have e7:(lH (az nc fi ls fr nm fm ng gi) ng g)=2:=by unfold lH;rw [he,hG];rfl
     by_cases kq:0≤k∧k<nc
     ·obtain ⟨mk,b2,b3⟩:=ok.mk1 (i:=Int.toNat k) (by omega)
      have l2:2≤(ls (Int.toNat k) 0)∧(ls (Int.toNat k) 0)≤5:=⟨b2,b3⟩
      have et:=Jz l2.1
      have inK':∀ (j:Nat) y,Bc nc (fun i=>ls i 0) (fun i=>fr i 0) j k y=true↔0≤y∧y≤fr (Int.toNat k) 0 (Int.toNat (((ls (Int.toNat k) 0:Nat):Int)-1)) j:=fun j y=>by
       rw [inK_t,et]
       exact ⟨fun q=>⟨q.2.2.1,q.2.2.2⟩,fun q=>⟨kq.1,kq.2,q.1,q.2⟩⟩
      have outK:∀ (j:Nat) y,¬ (0≤y∧y≤fr (Int.toNat k) 0 (Int.toNat (((ls (Int.toNat k) 0:Nat):Int)-1)) j)→Bc nc (fun i=>ls i 0) (fun i=>fr i 0) j k y=false:=fun j y q=>by
       cases z:Bc nc (fun i=>ls i 0) (fun i=>fr i 0) j k y with
       | false=>rfl
       | true=>exact absurd ((inK' j y).mp z) q
      by_cases dq:0≤d∧d≤fr (Int.toNat k) 0 (Int.toNat (((ls (Int.toNat k) 0:Nat):Int)-1)) 0
      ·have z:=iN d ((inK' 0 d).mpr dq)
       have di:bJ (ls (Int.toNat k) 0) (fr (Int.toNat k) 0) d=true:=inD_t.mpr ⟨dq.1,by rw [← et];exact dq.2⟩
       by_cases xq:0≤x∧x≤fr (Int.toNat k) 0 (Int.toNat (((ls (Int.toNat k) 0:Nat):Int)-1)) 1
       ·have y:=iD x ((inK' 1 x).mpr xq)
        exact YE nc fi fb ls fr nm fm ng gi gb gl gr k d x g h s1 s2 s3 s4 hc n3 m4 g6 e5 e6 e7 gq kq mk l2 dq di z.1 z.2 xq y.1 y.2 xq.1
       ·have y:=oD x (outK 1 x xq)
        exact (aJ au fA rfl (das:=[.st [.rw [.r 2,.i,.i,.i,.i] nc fi fb ls fr,.sl 4 nm fm,.rw [.i,.i,.i,.i,.b] ng gi gb gl gr],.one (.i .i64 k),.one (.i .i64 d),.one (.i .i64 x),.one (.i .i64 g)]) (ZC nc fi fb ls fr nm fm ng gi gb gl gr k d x g h s1 s2 s3 s4 hc n3 m4 g6 e5 e6 e7 gq kq mk l2 dq di z.1 z.2 xq y.1 y.2)).2
      ·have z:=oN d (outK 0 d dq)
       by_cases xq:0≤x∧x≤fr (Int.toNat k) 0 (Int.toNat (((ls (Int.toNat k) 0:Nat):Int)-1)) 1
       ·have y:=iD x ((inK' 1 x).mpr xq)
        exact YF nc fi fb ls fr nm fm ng gi gb gl gr k d x g h s1 s2 s3 s4 hc n3 m4 g6 e5 e6 e7 gq kq mk l2 dq z.1 z.2 xq y.1 y.2 xq.1
       ·have y:=oD x (outK 1 x xq)
        exact (aJ au fA rfl (das:=[.st [.rw [.r 2,.i,.i,.i,.i] nc fi fb ls fr,.sl 4 nm fm,.rw [.i,.i,.i,.i,.b] ng gi gb gl gr],.one (.i .i64 k),.one (.i .i64 d),.one (.i .i64 x),.one (.i .i64 g)]) (Zy nc fi fb ls fr nm fm ng gi gb gl gr k d x g h s1 s2 s3 s4 hc n3 m4 g6 e5 e6 e7 gq kq mk l2 dq z.1 z.2 xq y.1 y.2)).2
     ·exact (aJ au fA rfl (das:=[.st [.rw [.r 2,.i,.i,.i,.i] nc fi fb ls fr,.sl 4 nm fm,.rw [.i,.i,.i,.i,.b] ng gi gb gl gr],.one (.i .i64 k),.one (.i .i64 d),.one (.i .i64 x),.one (.i .i64 g)]) (gco nc fi fb ls fr nm fm ng gi gb gl gr k d x g h s1 s2 s3 s4 hc n3 m4 g6 e5 e6 e7 gq kq (oN d (kO kq 0 d)).1 (oN d (kO kq 0 d)).2 (oD x (kO kq 1 x)).1 (oD x (kO kq 1 x)).2)).2
   ·have hz:aK (az nc fi ls fr nm fm ng gi) 0=false:=(kY _ _).mpr hc
    exact (aJ au fA rfl (das:=[.st [.rw [.r 2,.i,.i,.i,.i] nc fi fb ls fr,.sl 4 nm fm,.rw [.i,.i,.i,.i,.b] ng gi gb gl gr],.one (.i .i64 k),.one (.i .i64 d),.one (.i .i64 x),.one (.i .i64 g)]) (gb0 nc fi fb ls fr nm fm ng gi gb gl gr k d x g h s1 s2 s3 s4 hc (by unfold jI;rw [hz];rfl) (by unfold bM;rw [hz];rfl) (by unfold dJ;rw [hz];rfl) (by unfold bM;rw [hz];rfl) (by unfold bI;rw [hz];rfl) (by unfold bI;rw [hz];rfl) (by unfold lH;rw [hz];rfl))).2
 ·cases hv
end
end CG
end Go.Proofs.Ytflblednifbleaa
