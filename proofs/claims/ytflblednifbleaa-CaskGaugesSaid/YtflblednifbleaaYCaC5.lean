/- Casks: contracts: Content, Dip, the work, Mean. -/
import Derived.Test.YtflblednifbleaaYCaC4
set_option linter.all false
set_option linter.unusedSimpArgs false
set_option linter.unusedVariables false
namespace Go.Proofs.Ytflblednifbleaa
open Go Go.Ev
set_option maxRecDepth 1000000
set_option maxHeartbeats 0
noncomputable section
variable (nc:Nat) (fi:Nat→Nat→Int) (fb:Nat→Nat→Bool) (ls:Nat→Nat→Nat) (fr:Nat→Nat→Nat→Nat→Int) (nm:Nat) (fm:Nat→Nat→Int) (ng:Nat) (gi:Nat→Nat→Int) (gb:Nat→Nat→Bool) (gl:Nat→Nat→Nat) (gr:Nat→Nat→Nat→Nat→Int)
def XPc:Ext:=zG [(12,cf Gm),(34,cf vG),(36,cf O8)] false
theorem uD:dC Try.prog XPc:=jL (aS (dL Ox)<|aS (dL U5)<|aS (dL XF) eu)
structure CeOk (nc:Nat) (l:Nat→Nat) (r:Nat→Nat→Nat→Int) (c1 c2 c3 c4:Nat→Int) (nm:Nat) (g:Nat→Nat→Int) (ng:Nat) (x0 x1 x2 x3:Nat→Int):Prop where
 n3:nc≤3
 m4:nm≤4
 g6:ng≤6
 n1:1≤nc
 five:ru nc l=true
 ak:zl nc l r c1 c2 c3 c4=true
 av:avB nc nm g=true
 ag:agB nc l r nm ng x0 x1 x2 x3=true
theorem KN (nc:Nat) (l:Nat→Nat) (r:Nat→Nat→Nat→Int) (c1 c2 c3 c4:Nat→Int) (nm:Nat) (g:Nat→Nat→Int) (ng:Nat) (x0 x1 x2 x3:Nat→Int) (h:ceE nc l r c1 c2 c3 c4 nm g ng x0 x1 x2 x3=0):CeOk nc l r c1 c2 c3 c4 nm g ng x0 x1 x2 x3:=by
 unfold ceE at h
 cases z0:(cond (Nat.ble nc 3) (cond (Nat.ble nm 4) (cond (Nat.ble ng 6) (ru nc l) false) false) false) with
 | false=>rw [z0] at h;exact absurd (show (3:Int)=0 from h) (by decide)
 | true =>
  rw [z0] at h
  obtain ⟨a1,z⟩:=ax z0
  obtain ⟨a2,z⟩:=ax z
  obtain ⟨a3,a4⟩:=ax z
  have h:cond (Nat.ble 1 nc) (cond (zl nc l r c1 c2 c3 c4) (cond (avB nc nm g) (cond (agB nc l r nm ng x0 x1 x2 x3) 0 1) 1) 1) 1=(0:Int):=h
  cases q1:Nat.ble 1 nc with
  | false=>rw [q1] at h;exact absurd (show (1:Int)=0 from h) (by decide)
  | true =>
   rw [q1] at h
   have h:cond (zl nc l r c1 c2 c3 c4) (cond (avB nc nm g) (cond (agB nc l r nm ng x0 x1 x2 x3) 0 1) 1) 1=(0:Int):=h
   cases q2:zl nc l r c1 c2 c3 c4 with
   | false=>rw [q2] at h;exact absurd (show (1:Int)=0 from h) (by decide)
   | true =>
    rw [q2] at h
    have h:cond (avB nc nm g) (cond (agB nc l r nm ng x0 x1 x2 x3) 0 1) 1=(0:Int):=h
    cases q3:avB nc nm g with
    | false=>rw [q3] at h;exact absurd (show (1:Int)=0 from h) (by decide)
    | true =>
     rw [q3] at h
     have h:cond (agB nc l r nm ng x0 x1 x2 x3) 0 1=(0:Int):=h
     cases q4:agB nc l r nm ng x0 x1 x2 x3 with
     | false=>rw [q4] at h;exact absurd (show (1:Int)=0 from h) (by decide)
     | true=>exact ⟨Nat.le_of_ble_eq_true a1,Nat.le_of_ble_eq_true a2,Nat.le_of_ble_eq_true a3,Nat.le_of_ble_eq_true q1,a4,q2,q3,q4⟩
theorem CeOk.mk1 {nc:Nat} {l:Nat→Nat} {r:Nat→Nat→Nat→Int} {c1 c2 c3 c4:Nat→Int} {nm:Nat} {g:Nat→Nat→Int} {ng:Nat} {x0 x1 x2 x3:Nat→Int} (h:CeOk nc l r c1 c2 c3 c4 nm g ng x0 x1 x2 x3) {i:Nat} (hi:i<nc):cu (l i) (r i)=true∧2≤l i∧l i≤5:=by
 have b:=aQ h.ak i hi
 obtain ⟨b,_⟩:=ax (show cond (cu (l i) (r i)) (cond (rgK (c1 i) (c2 i) 0 (r i (l i-1) 1)) (rgK (c3 i) (c4 i) 0 4) false) false=true from b)
 exact ⟨b,(mkB_t.mp b).two,Nat.le_of_ble_eq_true (aQ h.five i hi)⟩
theorem pc1 (k d:Int) (b1:nc≤1000) (b2:nm≤1000) (b3:ng≤1000) (b4:dD nc (fun i=>ls i 0)=true) (h:¬ (az nc fi ls fr nm fm ng gi)=0):VC (bi Try.prog XPc 600 7 (enc [.st [.rw [.r 2,.i,.i,.i,.i] nc fi fb ls fr,.sl 4 nm fm,.rw [.i,.i,.i,.i,.b] ng gi gb gl gr],.one (.i .i64 k),.one (.i .i64 d)] 0) 3 (fun v=>bC v (.tup [.int .i64 0,.int .i64 (az nc fi ls fr nm fm ng gi)]))) (.go 21 .nil):=ay (((cond (cond (cond (aF 0 (ah 0 [.r 2,.i,.i,.i,.i] fi fb ls fr) [.r 2,.i,.i,.i,.i] nc 5) (cond (aO .i64 (ae .i64 fm) nm 4) (cond (aF 2 (ah 2 [.i,.i,.i,.i,.b] gi gb gl gr) [.i,.i,.i,.i,.b] ng 5) true false) false) false) true false) (cond (Nat.ble nc 1000) (cond (Nat.ble nm 1000) (cond (Nat.ble ng 1000) (dD nc (fun i=>ls i 0)) false) false) false) false)=true∧((not (aK (az nc fi ls fr nm fm ng gi) 0))=true∧((((0):Int)=0)∧((((az nc fi ls fr nm fm ng gi):Int)=(az nc fi ls fr nm fm ng gi))∧True)))))
theorem pc2 (k d:Int) (b1:nc≤1000) (b2:nm≤1000) (b3:ng≤1000) (b4:dD nc (fun i=>ls i 0)=true) (h:(az nc fi ls fr nm fm ng gi)=0) (h3:nc≤3) (hl:0≤k→k<nc→2≤(ls (Int.toNat k) 0)∧(ls (Int.toNat k) 0)≤5) (hp:¬ (0≤k∧k<nc∧0≤d∧d≤(fr (Int.toNat k) 0 (Int.toNat (((ls (Int.toNat k) 0:Nat):Int)-1)) 0))):VC (bi Try.prog XPc 600 7 (enc [.st [.rw [.r 2,.i,.i,.i,.i] nc fi fb ls fr,.sl 4 nm fm,.rw [.i,.i,.i,.i,.b] ng gi gb gl gr],.one (.i .i64 k),.one (.i .i64 d)] 0) 3 (fun v=>bC v (.tup [.int .i64 0,.int .i64 2]))) (.go 25 (.sp (.go 256 (.sp .nil (.go 1069120 (.sp (.go 20480 .nil) .nil)))) .nil)):=ay (((cond (cond (cond (aF 0 (ah 0 [.r 2,.i,.i,.i,.i] fi fb ls fr) [.r 2,.i,.i,.i,.i] nc 5) (cond (aO .i64 (ae .i64 fm) nm 4) (cond (aF 2 (ah 2 [.i,.i,.i,.i,.b] gi gb gl gr) [.i,.i,.i,.i,.b] ng 5) true false) false) false) true false) (cond (Nat.ble nc 1000) (cond (Nat.ble nm 1000) (cond (Nat.ble ng 1000) (dD nc (fun i=>ls i 0)) false) false) false) false)=true∧((not (aK (az nc fi ls fr nm fm ng gi) 0))=false∧(((ai 0 k)=true→(((not (not (ai (nc:Int) k)))=true→((((0):Int)=0)∧((((2):Int)=2)∧True))) ∧
 ((not (not (ai ((nc:Nat):Int) k)))=false→((cZ k nc)=true∧((small ((((ls (Int.toNat k) 0):Nat):Int)-(1)))=true∧((cZ ((((ls (Int.toNat k) 0):Nat):Int)-(1)) (ls (Int.toNat k) 0))=true∧(((ai (0) d)=true→((not (ai d (fr (Int.toNat k) 0 (Int.toNat ((((ls (Int.toNat k) 0):Nat):Int)-(1))) 0)))=true∧((((0):Int)=(0))∧((((2):Int)=(2))∧True)))) ∧
 ((ai (0) d)=false→((((0):Int)=(0))∧((((2):Int)=(2))∧True)))))))))) ∧
 ((ai (0) k)=false→((((0):Int)=(0))∧((((2):Int)=(2))∧True)))))))
theorem pc3 (k d:Int) (b1:nc≤1000) (b2:nm≤1000) (b3:ng≤1000) (b4:dD nc (fun i=>ls i 0)=true) (h:(az nc fi ls fr nm fm ng gi)=0) (h3:nc≤3) (hl:2≤(ls (Int.toNat k) 0)∧(ls (Int.toNat k) 0)≤5) (hp:0≤k∧k<nc∧0≤d∧d≤(fr (Int.toNat k) 0 (Int.toNat (((ls (Int.toNat k) 0:Nat):Int)-1)) 0)) (hm:cu (ls (Int.toNat k) 0) (fr (Int.toNat k) 0)=true) (hd:bJ (ls (Int.toNat k) 0) (fr (Int.toNat k) 0) d=true):VC (bi Try.prog XPc 600 7 (enc [.st [.rw [.r 2,.i,.i,.i,.i] nc fi fb ls fr,.sl 4 nm fm,.rw [.i,.i,.i,.i,.b] ng gi gb gl gr],.one (.i .i64 k),.one (.i .i64 d)] 0) 3 (fun v=>bC v (.tup [.int .i64 (aZ (ls (Int.toNat k) 0) (fr (Int.toNat k) 0) d),.int .i64 0]))) (.go 96827462054346777 .nil):=ay (((cond (cond (cond (aF 0 (ah 0 [.r 2,.i,.i,.i,.i] fi fb ls fr) [.r 2,.i,.i,.i,.i] nc 5) (cond (aO .i64 (ae .i64 fm) nm 4) (cond (aF 2 (ah 2 [.i,.i,.i,.i,.b] gi gb gl gr) [.i,.i,.i,.i,.b] ng 5) true false) false) false) true false) (cond (Nat.ble nc 1000) (cond (Nat.ble nm 1000) (cond (Nat.ble ng 1000) (dD nc (fun i=>ls i 0)) false) false) false) false)=true∧((not (aK (az nc fi ls fr nm fm ng gi) 0))=false∧((ai 0 k)=true∧((not (not (ai (nc:Int) k)))=false∧((cZ k nc)=true∧((small ((((ls (Int.toNat k) 0):Nat):Int)-(1)))=true∧((cZ ((((ls (Int.toNat k) 0):Nat):Int)-(1)) (ls (Int.toNat k) 0))=true∧((ai 0 d)=true∧((not (ai d (fr (Int.toNat k) 0 (Int.toNat ((((ls (Int.toNat k) 0):Nat):Int)-(1))) 0)))=false∧((cZ k nc)=true∧((cond (cond (cond (aO .i64 (ae .i64 (fr (Int.toNat k) 0)) (ls (Int.toNat k) 0) 2) true false) true false) (cond (cu (ls (Int.toNat k) 0) (fr (Int.toNat k) 0)) (cond (Nat.ble (ls (Int.toNat k) 0) 5) (bJ (ls (Int.toNat k) 0) (fr (Int.toNat k) 0) d) false) false) false)=true∧((((aZ (ls (Int.toNat k) 0) (fr (Int.toNat k) 0) d):Int)=(aZ (ls (Int.toNat k) 0) (fr (Int.toNat k) 0) d))∧((((0):Int)=0)∧True))))))))))))))
theorem pd1 (k d:Int) (b1:nc≤1000) (b2:nm≤1000) (b3:ng≤1000) (b4:dD nc (fun i=>ls i 0)=true) (h:¬ (az nc fi ls fr nm fm ng gi)=0):VC (bi Try.prog XPc 600 9 (enc [.st [.rw [.r 2,.i,.i,.i,.i] nc fi fb ls fr,.sl 4 nm fm,.rw [.i,.i,.i,.i,.b] ng gi gb gl gr],.one (.i .i64 k),.one (.i .i64 d)] 0) 3 (fun v=>bC v (.tup [.int .i64 0,.int .i64 (az nc fi ls fr nm fm ng gi)]))) (.go 21 .nil):=ay (((cond (cond (cond (aF 0 (ah 0 [.r 2,.i,.i,.i,.i] fi fb ls fr) [.r 2,.i,.i,.i,.i] nc 5) (cond (aO .i64 (ae .i64 fm) nm 4) (cond (aF 2 (ah 2 [.i,.i,.i,.i,.b] gi gb gl gr) [.i,.i,.i,.i,.b] ng 5) true false) false) false) true false) (cond (Nat.ble nc 1000) (cond (Nat.ble nm 1000) (cond (Nat.ble ng 1000) (dD nc (fun i=>ls i 0)) false) false) false) false)=true∧((not (aK (az nc fi ls fr nm fm ng gi) 0))=true∧((((0):Int)=0)∧((((az nc fi ls fr nm fm ng gi):Int)=(az nc fi ls fr nm fm ng gi))∧True)))))
theorem pd2 (k d:Int) (b1:nc≤1000) (b2:nm≤1000) (b3:ng≤1000) (b4:dD nc (fun i=>ls i 0)=true) (h:(az nc fi ls fr nm fm ng gi)=0) (h3:nc≤3) (hl:0≤k→k<nc→2≤(ls (Int.toNat k) 0)∧(ls (Int.toNat k) 0)≤5) (hp:¬ (0≤k∧k<nc∧0≤d∧d≤(fr (Int.toNat k) 0 (Int.toNat (((ls (Int.toNat k) 0:Nat):Int)-1)) 1))):VC (bi Try.prog XPc 600 9 (enc [.st [.rw [.r 2,.i,.i,.i,.i] nc fi fb ls fr,.sl 4 nm fm,.rw [.i,.i,.i,.i,.b] ng gi gb gl gr],.one (.i .i64 k),.one (.i .i64 d)] 0) 3 (fun v=>bC v (.tup [.int .i64 0,.int .i64 2]))) (.go 25 (.sp (.go 256 (.sp .nil (.go 1069120 (.sp (.go 20480 .nil) .nil)))) .nil)):=ay (((cond (cond (cond (aF 0 (ah 0 [.r 2,.i,.i,.i,.i] fi fb ls fr) [.r 2,.i,.i,.i,.i] nc 5) (cond (aO .i64 (ae .i64 fm) nm 4) (cond (aF 2 (ah 2 [.i,.i,.i,.i,.b] gi gb gl gr) [.i,.i,.i,.i,.b] ng 5) true false) false) false) true false) (cond (Nat.ble nc 1000) (cond (Nat.ble nm 1000) (cond (Nat.ble ng 1000) (dD nc (fun i=>ls i 0)) false) false) false) false)=true∧((not (aK (az nc fi ls fr nm fm ng gi) 0))=false∧(((ai 0 k)=true→(((not (not (ai (nc:Int) k)))=true→((((0):Int)=0)∧((((2):Int)=2)∧True))) ∧
 ((not (not (ai ((nc:Nat):Int) k)))=false→((cZ k nc)=true∧((small ((((ls (Int.toNat k) 0):Nat):Int)-(1)))=true∧((cZ ((((ls (Int.toNat k) 0):Nat):Int)-(1)) (ls (Int.toNat k) 0))=true∧(((ai (0) d)=true→((not (ai d (fr (Int.toNat k) 0 (Int.toNat ((((ls (Int.toNat k) 0):Nat):Int)-(1))) 1)))=true∧((((0):Int)=(0))∧((((2):Int)=(2))∧True)))) ∧
 ((ai (0) d)=false→((((0):Int)=(0))∧((((2):Int)=(2))∧True)))))))))) ∧
 ((ai (0) k)=false→((((0):Int)=(0))∧((((2):Int)=(2))∧True)))))))
theorem pd3 (k d:Int) (b1:nc≤1000) (b2:nm≤1000) (b3:ng≤1000) (b4:dD nc (fun i=>ls i 0)=true) (h:(az nc fi ls fr nm fm ng gi)=0) (h3:nc≤3) (hl:2≤(ls (Int.toNat k) 0)∧(ls (Int.toNat k) 0)≤5) (hp:0≤k∧k<nc∧0≤d∧d≤(fr (Int.toNat k) 0 (Int.toNat (((ls (Int.toNat k) 0:Nat):Int)-1)) 1)) (hm:cu (ls (Int.toNat k) 0) (fr (Int.toNat k) 0)=true):VC (bi Try.prog XPc 600 9 (enc [.st [.rw [.r 2,.i,.i,.i,.i] nc fi fb ls fr,.sl 4 nm fm,.rw [.i,.i,.i,.i,.b] ng gi gb gl gr],.one (.i .i64 k),.one (.i .i64 d)] 0) 3 (fun v=>bC v (.tup [.int .i64 (rq (ls (Int.toNat k) 0) (fr (Int.toNat k) 0) d),.int .i64 0]))) (.go 96827462054346777 .nil):=ay (((cond (cond (cond (aF 0 (ah 0 [.r 2,.i,.i,.i,.i] fi fb ls fr) [.r 2,.i,.i,.i,.i] nc 5) (cond (aO .i64 (ae .i64 fm) nm 4) (cond (aF 2 (ah 2 [.i,.i,.i,.i,.b] gi gb gl gr) [.i,.i,.i,.i,.b] ng 5) true false) false) false) true false) (cond (Nat.ble nc 1000) (cond (Nat.ble nm 1000) (cond (Nat.ble ng 1000) (dD nc (fun i=>ls i 0)) false) false) false) false)=true∧((not (aK (az nc fi ls fr nm fm ng gi) 0))=false∧((ai 0 k)=true∧((not (not (ai (nc:Int) k)))=false∧((cZ k nc)=true∧((small ((((ls (Int.toNat k) 0):Nat):Int)-(1)))=true∧((cZ ((((ls (Int.toNat k) 0):Nat):Int)-(1)) (ls (Int.toNat k) 0))=true∧((ai 0 d)=true∧((not (ai d (fr (Int.toNat k) 0 (Int.toNat ((((ls (Int.toNat k) 0):Nat):Int)-(1))) 1)))=false∧((cZ k nc)=true∧((cond (cond (cond (aO .i64 (ae .i64 (fr (Int.toNat k) 0)) (ls (Int.toNat k) 0) 2) true false) true false) (cond (cu (ls (Int.toNat k) 0) (fr (Int.toNat k) 0)) (cond (Nat.ble (ls (Int.toNat k) 0) 5) (ai 0 d) false) false) false)=true∧((((rq (ls (Int.toNat k) 0) (fr (Int.toNat k) 0) d):Int)=(rq (ls (Int.toNat k) 0) (fr (Int.toNat k) 0) d))∧((((0):Int)=0)∧True))))))))))))))
def Bc (nc:Nat) (l:Nat→Nat) (r:Nat→Nat→Nat→Int) (j:Nat) (k d:Int):Bool:=cond (cond (ai 0 k) (ai (k+1) (Int.ofNat nc)) false) (cond (ai 0 d) (ai d (r (Int.toNat k) (l (Int.toNat k)-1) j)) false) false
def jI (e:Int) (nc:Nat) (l:Nat→Nat) (r:Nat→Nat→Nat→Int) (k d:Int):Int:=cond (aK e 0) (cond (Bc nc l r 0 k d) (aZ (l (Int.toNat k)) (r (Int.toNat k)) d) 0) 0
def dJ (e:Int) (nc:Nat) (l:Nat→Nat) (r:Nat→Nat→Nat→Int) (k d:Int):Int:=cond (aK e 0) (cond (Bc nc l r 1 k d) (rq (l (Int.toNat k)) (r (Int.toNat k)) d) 0) 0
def bM (j:Nat) (e:Int) (nc:Nat) (l:Nat→Nat) (r:Nat→Nat→Nat→Int) (k d:Int):Int:=cond (aK e 0) (cond (Bc nc l r j k d) 0 2) e
def Px:Val:=fun das=>match das with | [.st [.rw [.r 2,.i,.i,.i,.i] nc fi fb ls fr,.sl 4 nm fm,.rw [.i,.i,.i,.i,.b] ng gi gb gl gr],.one (.i .i64 k),.one (.i .i64 d)]=>some ((cond (Nat.ble nc 1000) (cond (Nat.ble nm 1000) (cond (Nat.ble ng 1000) (dD nc (fun i=>ls i 0)) false) false) false),.tup [.int .i64 (jI (az nc fi ls fr nm fm ng gi) nc (fun i=>ls i 0) (fun i=>fr i 0) k d),.int .i64 (bM 0 (az nc fi ls fr nm fm ng gi) nc (fun i=>ls i 0) (fun i=>fr i 0) k d)]) | _=>none
def PY:Val:=fun das=>match das with | [.st [.rw [.r 2,.i,.i,.i,.i] nc fi fb ls fr,.sl 4 nm fm,.rw [.i,.i,.i,.i,.b] ng gi gb gl gr],.one (.i .i64 k),.one (.i .i64 d)]=>some ((cond (Nat.ble nc 1000) (cond (Nat.ble nm 1000) (cond (Nat.ble ng 1000) (dD nc (fun i=>ls i 0)) false) false) false),.tup [.int .i64 (dJ (az nc fi ls fr nm fm ng gi) nc (fun i=>ls i 0) (fun i=>fr i 0) k d),.int .i64 (bM 1 (az nc fi ls fr nm fm ng gi) nc (fun i=>ls i 0) (fun i=>fr i 0) k d)]) | _=>none
theorem inK_t {nc:Nat} {l:Nat→Nat} {r:Nat→Nat→Nat→Int} {j:Nat} {k d:Int}:Bc nc l r j k d=true↔0≤k∧k<nc∧0≤d∧d≤r (Int.toNat k) (l (Int.toNat k)-1) j:=by
 unfold Bc
 constructor
 ·intro h
  obtain ⟨h1,h2⟩:=ax h
  obtain ⟨a1,a2⟩:=ax h1
  obtain ⟨b1,b2⟩:=ax h2
  have a2:k+1≤((nc:Nat):Int):=(aW _ _).mp a2
  exact ⟨(aW _ _).mp a1,by omega,(aW _ _).mp b1,(aW _ _).mp b2⟩
 ·rintro ⟨a1,a2,b1,b2⟩
  exact bY (bY ((aW _ _).mpr a1) ((aW _ _).mpr (show k+1≤((nc:Nat):Int) by omega))) (bY ((aW _ _).mpr b1) ((aW _ _).mpr b2))
theorem DK {nc nm ng:Nat} {l:Nat→Nat} (h:cond (Nat.ble nc 1000) (cond (Nat.ble nm 1000) (cond (Nat.ble ng 1000) (dD nc l) false) false) false=true):nc≤1000∧nm≤1000∧ng≤1000∧dD nc l=true:=by
 obtain ⟨b1,h⟩:=ax h
 obtain ⟨b2,h⟩:=ax h
 obtain ⟨b3,b4⟩:=ax h
 exact ⟨Nat.le_of_ble_eq_true b1,Nat.le_of_ble_eq_true b2,Nat.le_of_ble_eq_true b3,b4⟩
theorem Xo:zA Try.prog 7 Px:=by
 intro das v hv
 unfold Px at hv
 split at hv
 ·rename_i nc fi fb ls fr nm fm ng gi gb gl gr k d
  have hb:=congrArg Prod.fst (Option.some.inj hv)
  have hv:=congrArg Prod.snd (Option.some.inj hv)
  subst hv
  obtain ⟨b1,b2,b3,b4⟩:=DK hb
  by_cases h:(az nc fi ls fr nm fm ng gi)=0
  ·have c:=KN _ _ _ _ _ _ _ _ _ _ _ _ _ _ h
   have hl:0≤k→k<nc→2≤(ls (Int.toNat k) 0)∧(ls (Int.toNat k) 0)≤5:=fun a b=>(c.mk1 (i:=Int.toNat k) (by omega)).2
   cases hs:Bc nc (fun i=>ls i 0) (fun i=>fr i 0) 0 k d with
   | false =>
    have e1:jI (az nc fi ls fr nm fm ng gi) nc (fun i=>ls i 0) (fun i=>fr i 0) k d=0:=by unfold jI;rw [(dw _ _).mpr h,hs];rfl
    have e2:bM 0 (az nc fi ls fr nm fm ng gi) nc (fun i=>ls i 0) (fun i=>fr i 0) k d=2:=by unfold bM;rw [(dw _ _).mpr h,hs];rfl
    rw [e1,e2]
    refine aJ au uD rfl (das:=[.st [.rw [.r 2,.i,.i,.i,.i] nc fi fb ls fr,.sl 4 nm fm,.rw [.i,.i,.i,.i,.b] ng gi gb gl gr],.one (.i .i64 k),.one (.i .i64 d)]) (pc2 nc fi fb ls fr nm fm ng gi gb gl gr k d b1 b2 b3 b4 h c.n3 hl ?_)
    rintro ⟨a1,a2,a3,a4⟩
    rw [lQ (hl a1 a2).1] at a4
    rw [inK_t.mpr ⟨a1,a2,a3,a4⟩] at hs
    cases hs
   | true =>
    obtain ⟨a1,a2,a3,a4⟩:=inK_t.mp hs
    have m:=c.mk1 (i:=Int.toNat k) (by omega)
    have e1:jI (az nc fi ls fr nm fm ng gi) nc (fun i=>ls i 0) (fun i=>fr i 0) k d=aZ (ls (Int.toNat k) 0) (fr (Int.toNat k) 0) d:=by unfold jI;rw [(dw _ _).mpr h,hs];rfl
    have e2:bM 0 (az nc fi ls fr nm fm ng gi) nc (fun i=>ls i 0) (fun i=>fr i 0) k d=0:=by unfold bM;rw [(dw _ _).mpr h,hs];rfl
    rw [e1,e2]
    refine aJ au uD rfl (das:=[.st [.rw [.r 2,.i,.i,.i,.i] nc fi fb ls fr,.sl 4 nm fm,.rw [.i,.i,.i,.i,.b] ng gi gb gl gr],.one (.i .i64 k),.one (.i .i64 d)]) (pc3 nc fi fb ls fr nm fm ng gi gb gl gr k d b1 b2 b3 b4 h c.n3 m.2 ⟨a1,a2,a3,?_⟩ m.1 (inD_t.mpr ⟨a3,a4⟩))
    rw [lQ m.2.1];exact a4
  ·have e1:jI (az nc fi ls fr nm fm ng gi) nc (fun i=>ls i 0) (fun i=>fr i 0) k d=0:=by unfold jI;rw [(kY _ _).mpr h];rfl
   have e2:bM 0 (az nc fi ls fr nm fm ng gi) nc (fun i=>ls i 0) (fun i=>fr i 0) k d=(az nc fi ls fr nm fm ng gi):=by unfold bM;rw [(kY _ _).mpr h];rfl
   rw [e1,e2]
   exact aJ au uD rfl (das:=[.st [.rw [.r 2,.i,.i,.i,.i] nc fi fb ls fr,.sl 4 nm fm,.rw [.i,.i,.i,.i,.b] ng gi gb gl gr],.one (.i .i64 k),.one (.i .i64 d)]) (pc1 nc fi fb ls fr nm fm ng gi gb gl gr k d b1 b2 b3 b4 h)
 ·cases hv
theorem XJ:zA Try.prog 9 PY:=by
 intro das v hv
 unfold PY at hv
 split at hv
 ·rename_i nc fi fb ls fr nm fm ng gi gb gl gr k d
  have hb:=congrArg Prod.fst (Option.some.inj hv)
  have hv:=congrArg Prod.snd (Option.some.inj hv)
  subst hv
  obtain ⟨b1,b2,b3,b4⟩:=DK hb
  by_cases h:(az nc fi ls fr nm fm ng gi)=0
  ·have c:=KN _ _ _ _ _ _ _ _ _ _ _ _ _ _ h
   have hl:0≤k→k<nc→2≤(ls (Int.toNat k) 0)∧(ls (Int.toNat k) 0)≤5:=fun a b=>(c.mk1 (i:=Int.toNat k) (by omega)).2
   cases hs:Bc nc (fun i=>ls i 0) (fun i=>fr i 0) 1 k d with
   | false =>
    have e1:dJ (az nc fi ls fr nm fm ng gi) nc (fun i=>ls i 0) (fun i=>fr i 0) k d=0:=by unfold dJ;rw [(dw _ _).mpr h,hs];rfl
    have e2:bM 1 (az nc fi ls fr nm fm ng gi) nc (fun i=>ls i 0) (fun i=>fr i 0) k d=2:=by unfold bM;rw [(dw _ _).mpr h,hs];rfl
    rw [e1,e2]
    refine aJ au uD rfl (das:=[.st [.rw [.r 2,.i,.i,.i,.i] nc fi fb ls fr,.sl 4 nm fm,.rw [.i,.i,.i,.i,.b] ng gi gb gl gr],.one (.i .i64 k),.one (.i .i64 d)]) (pd2 nc fi fb ls fr nm fm ng gi gb gl gr k d b1 b2 b3 b4 h c.n3 hl ?_)
    rintro ⟨a1,a2,a3,a4⟩
    rw [lQ (hl a1 a2).1] at a4
    rw [inK_t.mpr ⟨a1,a2,a3,a4⟩] at hs
    cases hs
   | true =>
    obtain ⟨a1,a2,a3,a4⟩:=inK_t.mp hs
    have m:=c.mk1 (i:=Int.toNat k) (by omega)
    have e1:dJ (az nc fi ls fr nm fm ng gi) nc (fun i=>ls i 0) (fun i=>fr i 0) k d=rq (ls (Int.toNat k) 0) (fr (Int.toNat k) 0) d:=by unfold dJ;rw [(dw _ _).mpr h,hs];rfl
    have e2:bM 1 (az nc fi ls fr nm fm ng gi) nc (fun i=>ls i 0) (fun i=>fr i 0) k d=0:=by unfold bM;rw [(dw _ _).mpr h,hs];rfl
    rw [e1,e2]
    refine aJ au uD rfl (das:=[.st [.rw [.r 2,.i,.i,.i,.i] nc fi fb ls fr,.sl 4 nm fm,.rw [.i,.i,.i,.i,.b] ng gi gb gl gr],.one (.i .i64 k),.one (.i .i64 d)]) (pd3 nc fi fb ls fr nm fm ng gi gb gl gr k d b1 b2 b3 b4 h c.n3 m.2 ⟨a1,a2,a3,?_⟩ m.1)
    rw [lQ m.2.1];exact a4
  ·have e1:dJ (az nc fi ls fr nm fm ng gi) nc (fun i=>ls i 0) (fun i=>fr i 0) k d=0:=by unfold dJ;rw [(kY _ _).mpr h];rfl
   have e2:bM 1 (az nc fi ls fr nm fm ng gi) nc (fun i=>ls i 0) (fun i=>fr i 0) k d=(az nc fi ls fr nm fm ng gi):=by unfold bM;rw [(kY _ _).mpr h];rfl
   rw [e1,e2]
   exact aJ au uD rfl (das:=[.st [.rw [.r 2,.i,.i,.i,.i] nc fi fb ls fr,.sl 4 nm fm,.rw [.i,.i,.i,.i,.b] ng gi gb gl gr],.one (.i .i64 k),.one (.i .i64 d)]) (pd1 nc fi fb ls fr nm fm ng gi gb gl gr k d b1 b2 b3 b4 h)
 ·cases hv
end
end Go.Proofs.Ytflblednifbleaa
