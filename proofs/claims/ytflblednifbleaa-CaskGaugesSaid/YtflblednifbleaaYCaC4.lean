/- Casks: contracts: all casks, moves, gauges; the error of a cellar. -/
import Derived.Test.YtflblednifbleaaYCaC3
set_option linter.all false
set_option linter.unusedSimpArgs false
set_option linter.unusedVariables false
namespace Go.Proofs.Ytflblednifbleaa
open Go Go.Ev
set_option maxRecDepth 1000000
set_option maxHeartbeats 0
noncomputable section
variable (nc:Nat) (fi:Nat→Nat→Int) (fb:Nat→Nat→Bool) (ls:Nat→Nat→Nat) (fr:Nat→Nat→Nat→Nat→Int) (nm:Nat) (fm:Nat→Nat→Int) (ng:Nat) (gi:Nat→Nat→Int) (gb:Nat→Nat→Bool) (gl:Nat→Nat→Nat) (gr:Nat→Nat→Nat→Nat→Int)
def zl (nc:Nat) (l:Nat→Nat) (r:Nat→Nat→Nat→Int) (c1 c2 c3 c4:Nat→Int):Bool:=dP (fun i=>kaB (l i) (r i) (c1 i) (c2 i) (c3 i) (c4 i)) nc
def ru (nc:Nat) (l:Nat→Nat):Bool:=dP (fun i=>Nat.ble (l i) 5) nc
def dD (nc:Nat) (l:Nat→Nat):Bool:=dP (fun i=>Nat.ble (l i) 1000) nc
def avB (nc nm:Nat) (g:Nat→Nat→Int):Bool:=dP (fun k=>mvB nc (g k 0) (g k 1) (g k 2) (g k 3)) nm
def agB (nc:Nat) (l:Nat→Nat) (r:Nat→Nat→Nat→Int) (nm:Nat) (ng:Nat) (x0 x1 x2 x3:Nat→Int):Bool:=dP (fun k=>ggB nc l r nm (x0 k) (x1 k) (x2 k) (x3 k)) ng
def ceE (nc:Nat) (l:Nat→Nat) (r:Nat→Nat→Nat→Int) (c1 c2 c3 c4:Nat→Int) (nm:Nat) (g:Nat→Nat→Int) (ng:Nat) (x0 x1 x2 x3:Nat→Int):Int:=cond (cond (Nat.ble nc 3) (cond (Nat.ble nm 4) (cond (Nat.ble ng 6) (ru nc l) false) false) false) (cond (Nat.ble 1 nc) (cond (zl nc l r c1 c2 c3 c4) (cond (avB nc nm g) (cond (agB nc l r nm ng x0 x1 x2 x3) 0 1) 1) 1) 1) 3
def Qv:Val:=fun das=>match das with | [.one (.rw [.r 2,.i,.i,.i,.i] nc fi fb ls fr),.fn w]=>some (cond (Nat.beq w 59) (cond (ru nc (fun i=>ls i 0)) (Nat.ble nc 1000000) false) (cond (Nat.beq w 55) (cond (dD nc (fun i=>ls i 0)) (Nat.ble nc 1000000) false) false),.bool (cond (Nat.beq w 59) (zl nc (fun i=>ls i 0) (fun i=>fr i 0) (fun i=>fi i 1) (fun i=>fi i 2) (fun i=>fi i 3) (fun i=>fi i 4)) (ru nc (fun i=>ls i 0)))) | _=>none
def QB:Val:=fun das=>match das with | [.one (.sl 4 m g),.cl w [.rw [.r 2,.i,.i,.i,.i] nc fi fb ls fr,.sl 4 nm fm,.rw [.i,.i,.i,.i,.b] ng gi gb gl gr]]=>some (cond (Nat.beq w 57) (cond (Nat.ble nc 3) (Nat.ble m 1000000) false) false,.bool (avB nc m g)) | _=>none
def Sj:Val:=fun das=>match das with | [.one (.rw [.i,.i,.i,.i,.b] m xi xb xl xr),.cl w [.rw [.r 2,.i,.i,.i,.i] nc fi fb ls fr,.sl 4 nm fm,.rw [.i,.i,.i,.i,.b] ng gi gb gl gr]]=>some (cond (Nat.beq w 58) (cond (Nat.ble nc 3) (cond (Nat.ble nm 4) (cond (lnB nc (fun i=>ls i 0)) (Nat.ble m 1000000) false) false) false) false,.bool (agB nc (fun i=>ls i 0) (fun i=>fr i 0) nm m (fun i=>xi i 0) (fun i=>xi i 1) (fun i=>xi i 2) (fun i=>xi i 3))) | _=>none
theorem XD:zA Try.prog 56 Qv:=by
 intro das v hv
 unfold Qv at hv
 split at hv
 ·rename_i nc fi fb ls fr w
  have hb:=congrArg Prod.fst (Option.some.inj hv)
  have hv:=congrArg Prod.snd (Option.some.inj hv)
  subst hv
  refine ⟨rfl,?_⟩
  cases q:Nat.beq w 59 with
  | true =>
   have:=nb q;subst this
   rw [q] at hb
   obtain ⟨h1,h2⟩:=ax (show cond (ru nc (fun i=>ls i 0)) (Nat.ble nc 1000000) false=true from hb)
   exact gK nc fi fb ls fr (fun k hk=>Nat.le_of_ble_eq_true (aQ h1 k hk)) (Nat.le_of_ble_eq_true h2)
  | false =>
   rw [q] at hb
   cases q2:Nat.beq w 55 with
   | true =>
    have:=nb q2;subst this
    rw [q2] at hb
    obtain ⟨h1,h2⟩:=ax (show cond (dD nc (fun i=>ls i 0)) (Nat.ble nc 1000000) false=true from hb)
    exact gT nc fi fb ls fr (fun k hk=>Nat.le_of_ble_eq_true (aQ h1 k hk)) (Nat.le_of_ble_eq_true h2)
   | false=>rw [q2] at hb;cases hb
 ·cases hv
theorem XT:zA Try.prog 60 QB:=by
 intro das v hv
 unfold QB at hv
 split at hv
 ·rename_i m g w nc fi fb ls fr nm fm ng gi gb gl gr
  have hb:=congrArg Prod.fst (Option.some.inj hv)
  have hv:=congrArg Prod.snd (Option.some.inj hv)
  subst hv
  refine ⟨rfl,?_⟩
  obtain ⟨q,hb⟩:=ax hb
  have:=nb q;subst this
  obtain ⟨h1,h2⟩:=ax hb
  exact gV m g nc fi fb ls fr nm fm ng gi gb gl gr (Nat.le_of_ble_eq_true h1) (Nat.le_of_ble_eq_true h2)
 ·cases hv
theorem XN:zA Try.prog 61 Sj:=by
 intro das v hv
 unfold Sj at hv
 split at hv
 ·rename_i m xi xb xl xr w nc fi fb ls fr nm fm ng gi gb gl gr
  have hb:=congrArg Prod.fst (Option.some.inj hv)
  have hv:=congrArg Prod.snd (Option.some.inj hv)
  subst hv
  refine ⟨rfl,?_⟩
  obtain ⟨q,hb⟩:=ax hb
  have:=nb q;subst this
  obtain ⟨h1,hb⟩:=ax hb
  obtain ⟨h2,hb⟩:=ax hb
  obtain ⟨h3,h4⟩:=ax hb
  exact gG m xi xb xl xr nc fi fb ls fr nm fm ng gi gb gl gr (Nat.le_of_ble_eq_true h1) (Nat.le_of_ble_eq_true h2) h3 (Nat.le_of_ble_eq_true h4)
 ·cases hv
def XCc:Ext:=zG [(56,cf Qv),(60,cf QB),(61,cf Sj)] false
theorem qU:dC Try.prog XCc:=jL (aS (dL XD)<|aS (dL XT)<|aS (dL XN) eu)
theorem ck0 (b1:nc≤1000) (b2:nm≤1000) (b3:ng≤1000) (b4:dD nc (fun i=>ls i 0)=true) (h:¬ (nc≤3∧nm≤4∧ng≤6)):VC (bi Try.prog XCc 600 12 (enc [.st [.rw [.r 2,.i,.i,.i,.i] nc fi fb ls fr,.sl 4 nm fm,.rw [.i,.i,.i,.i,.b] ng gi gb gl gr]] 0) 3 (fun v=>bC v (.int .i64 3))) (.sp .nil (.go 256 (.sp .nil (.go 1280 .nil)))):=ay ((((not (ai (nc:Int) 3))=true→(((3):Int)=3)) ∧
 ((not (ai ((nc:Nat):Int) (3)))=false→(((not (ai ((nm:Nat):Int) (4)))=true→(((3):Int)=(3))) ∧
 ((not (ai ((nm:Nat):Int) (4)))=false→((not (ai ((ng:Nat):Int) (6)))=true∧(((3):Int)=(3))))))))
theorem ck1 (b1:nc≤1000) (b2:nm≤1000) (b3:ng≤1000) (b4:dD nc (fun i=>ls i 0)=true) (h1:nc≤3) (h2:nm≤4) (h3:ng≤6) (h:ru nc (fun i=>ls i 0)=false):VC (bi Try.prog XCc 600 12 (enc [.st [.rw [.r 2,.i,.i,.i,.i] nc fi fb ls fr,.sl 4 nm fm,.rw [.i,.i,.i,.i,.b] ng gi gb gl gr]] 0) 3 (fun v=>bC v (.int .i64 3))) (.go 86169880578 .nil):=ay (((not (ai (nc:Int) 3))=false∧((not (ai (nm:Int) 4))=false∧((not (ai (ng:Int) 6))=false∧((cond (cond (aF 0 (ah 0 [.r 2,.i,.i,.i,.i] fi fb ls fr) [.r 2,.i,.i,.i,.i] nc 5) true false) (cond (dD nc (fun i=>ls i 0)) (Nat.ble nc 1000000) false) false)=true∧((not (ru nc (fun i=>ls i 0)))=true∧(((3):Int)=3)))))))
theorem ck2 (b1:nc≤1000) (b2:nm≤1000) (b3:ng≤1000) (b4:dD nc (fun i=>ls i 0)=true) (h1:nc≤3) (h2:nm≤4) (h3:ng≤6) (h:ru nc (fun i=>ls i 0)=true) (h0:nc=0):VC (bi Try.prog XCc 600 12 (enc [.st [.rw [.r 2,.i,.i,.i,.i] nc fi fb ls fr,.sl 4 nm fm,.rw [.i,.i,.i,.i,.b] ng gi gb gl gr]] 0) 3 (fun v=>bC v (.int .i64 1))) (.go 446947133442 .nil):=ay (((not (ai (nc:Int) 3))=false∧((not (ai (nm:Int) 4))=false∧((not (ai (ng:Int) 6))=false∧((cond (cond (aF 0 (ah 0 [.r 2,.i,.i,.i,.i] fi fb ls fr) [.r 2,.i,.i,.i,.i] nc 5) true false) (cond (dD nc (fun i=>ls i 0)) (Nat.ble nc 1000000) false) false)=true∧((not (ru nc (fun i=>ls i 0)))=false∧((not (ai (nc:Int) 0))=false∧(((1):Int)=1))))))))
theorem ck3 (b1:nc≤1000) (b2:nm≤1000) (b3:ng≤1000) (b4:dD nc (fun i=>ls i 0)=true) (h1:nc≤3) (h2:nm≤4) (h3:ng≤6) (h:ru nc (fun i=>ls i 0)=true) (h0:1≤nc) (q:zl nc (fun i=>ls i 0) (fun i=>fr i 0) (fun i=>fi i 1) (fun i=>fi i 2) (fun i=>fi i 3) (fun i=>fi i 4)=false):VC (bi Try.prog XCc 600 12 (enc [.st [.rw [.r 2,.i,.i,.i,.i] nc fi fb ls fr,.sl 4 nm fm,.rw [.i,.i,.i,.i,.b] ng gi gb gl gr]] 0) 3 (fun v=>bC v (.int .i64 1))) (.go 426713861326850 .nil):=ay (((not (ai (nc:Int) 3))=false∧((not (ai (nm:Int) 4))=false∧((not (ai (ng:Int) 6))=false∧((cond (cond (aF 0 (ah 0 [.r 2,.i,.i,.i,.i] fi fb ls fr) [.r 2,.i,.i,.i,.i] nc 5) true false) (cond (dD nc (fun i=>ls i 0)) (Nat.ble nc 1000000) false) false)=true∧((not (ru nc (fun i=>ls i 0)))=false∧((not (ai (nc:Int) 0))=true∧((cond (cond (aF 0 (ah 0 [.r 2,.i,.i,.i,.i] fi fb ls fr) [.r 2,.i,.i,.i,.i] nc 5) true false) (cond (ru nc (fun i=>ls i 0)) (Nat.ble nc 1000000) false) false)=true∧((zl nc (fun i=>ls i 0) (fun i=>fr i 0) (fun i=>fi i 1) (fun i=>fi i 2) (fun i=>fi i 3) (fun i=>fi i 4))=false∧(((1):Int)=1))))))))))
theorem ck4 (b1:nc≤1000) (b2:nm≤1000) (b3:ng≤1000) (b4:dD nc (fun i=>ls i 0)=true) (h1:nc≤3) (h2:nm≤4) (h3:ng≤6) (h:ru nc (fun i=>ls i 0)=true) (h0:1≤nc) (q:zl nc (fun i=>ls i 0) (fun i=>fr i 0) (fun i=>fi i 1) (fun i=>fi i 2) (fun i=>fi i 3) (fun i=>fi i 4)=true) (q2:avB nc nm fm=false):VC (bi Try.prog XCc 600 12 (enc [.st [.rw [.r 2,.i,.i,.i,.i] nc fi fb ls fr,.sl 4 nm fm,.rw [.i,.i,.i,.i,.b] ng gi gb gl gr]] 0) 3 (fun v=>bC v (.int .i64 1))) (.go 1747471525560190978 .nil):=ay (((not (ai (nc:Int) 3))=false∧((not (ai (nm:Int) 4))=false∧((not (ai (ng:Int) 6))=false∧((cond (cond (aF 0 (ah 0 [.r 2,.i,.i,.i,.i] fi fb ls fr) [.r 2,.i,.i,.i,.i] nc 5) true false) (cond (dD nc (fun i=>ls i 0)) (Nat.ble nc 1000000) false) false)=true∧((not (ru nc (fun i=>ls i 0)))=false∧((not (ai (nc:Int) 0))=true∧((cond (cond (aF 0 (ah 0 [.r 2,.i,.i,.i,.i] fi fb ls fr) [.r 2,.i,.i,.i,.i] nc 5) true false) (cond (ru nc (fun i=>ls i 0)) (Nat.ble nc 1000000) false) false)=true∧((zl nc (fun i=>ls i 0) (fun i=>fr i 0) (fun i=>fi i 1) (fun i=>fi i 2) (fun i=>fi i 3) (fun i=>fi i 4))=true∧((cond (cond (aO .i64 (ae .i64 fm) nm 4) (cond (cond (aF 0 (ah 0 [.r 2,.i,.i,.i,.i] fi fb ls fr) [.r 2,.i,.i,.i,.i] nc 5) (cond (aO .i64 (ae .i64 fm) nm 4) (cond (aF 2 (ah 2 [.i,.i,.i,.i,.b] gi gb gl gr) [.i,.i,.i,.i,.b] ng 5) true false) false) false) true false) false) (cond (Nat.ble nc 3) (Nat.ble nm 1000000) false) false)=true∧((avB nc nm fm)=false∧(((1):Int)=1))))))))))))
theorem ck5 (b1:nc≤1000) (b2:nm≤1000) (b3:ng≤1000) (b4:dD nc (fun i=>ls i 0)=true) (h1:nc≤3) (h2:nm≤4) (h3:ng≤6) (h:ru nc (fun i=>ls i 0)=true) (h0:1≤nc) (q:zl nc (fun i=>ls i 0) (fun i=>fr i 0) (fun i=>fi i 1) (fun i=>fi i 2) (fun i=>fi i 3) (fun i=>fi i 4)=true) (q2:avB nc nm fm=true) (ln:lnB nc (fun i=>ls i 0)=true) (q3:agB nc (fun i=>ls i 0) (fun i=>fr i 0) nm ng (fun i=>gi i 0) (fun i=>gi i 1) (fun i=>gi i 2) (fun i=>gi i 3)=false):VC (bi Try.prog XCc 600 12 (enc [.st [.rw [.r 2,.i,.i,.i,.i] nc fi fb ls fr,.sl 4 nm fm,.rw [.i,.i,.i,.i,.b] ng gi gb gl gr]] 0) 3 (fun v=>bC v (.int .i64 1))) (.go 5977051399526696355842 .nil):=ay (((not (ai (nc:Int) 3))=false∧((not (ai (nm:Int) 4))=false∧((not (ai (ng:Int) 6))=false∧((cond (cond (aF 0 (ah 0 [.r 2,.i,.i,.i,.i] fi fb ls fr) [.r 2,.i,.i,.i,.i] nc 5) true false) (cond (dD nc (fun i=>ls i 0)) (Nat.ble nc 1000000) false) false)=true∧((not (ru nc (fun i=>ls i 0)))=false∧((not (ai (nc:Int) 0))=true∧((cond (cond (aF 0 (ah 0 [.r 2,.i,.i,.i,.i] fi fb ls fr) [.r 2,.i,.i,.i,.i] nc 5) true false) (cond (ru nc (fun i=>ls i 0)) (Nat.ble nc 1000000) false) false)=true∧((zl nc (fun i=>ls i 0) (fun i=>fr i 0) (fun i=>fi i 1) (fun i=>fi i 2) (fun i=>fi i 3) (fun i=>fi i 4))=true∧((cond (cond (aO .i64 (ae .i64 fm) nm 4) (cond (cond (aF 0 (ah 0 [.r 2,.i,.i,.i,.i] fi fb ls fr) [.r 2,.i,.i,.i,.i] nc 5) (cond (aO .i64 (ae .i64 fm) nm 4) (cond (aF 2 (ah 2 [.i,.i,.i,.i,.b] gi gb gl gr) [.i,.i,.i,.i,.b] ng 5) true false) false) false) true false) false) (cond (Nat.ble nc 3) (Nat.ble nm 1000000) false) false)=true∧((avB nc nm fm)=true∧((cond (cond (aF 2 (ah 2 [.i,.i,.i,.i,.b] gi gb gl gr) [.i,.i,.i,.i,.b] ng 5) (cond (cond (aF 0 (ah 0 [.r 2,.i,.i,.i,.i] fi fb ls fr) [.r 2,.i,.i,.i,.i] nc 5) (cond (aO .i64 (ae .i64 fm) nm 4) (cond (aF 2 (ah 2 [.i,.i,.i,.i,.b] gi gb gl gr) [.i,.i,.i,.i,.b] ng 5) true false) false) false) true false) false) (cond (Nat.ble nc 3) (cond (Nat.ble nm 4) (cond (lnB nc (fun i=>ls i 0)) (Nat.ble ng 1000000) false) false) false) false)=true∧((not (agB nc (fun i=>ls i 0) (fun i=>fr i 0) nm ng (fun i=>gi i 0) (fun i=>gi i 1) (fun i=>gi i 2) (fun i=>gi i 3)))=true∧(((1):Int)=1))))))))))))))
theorem ck6 (b1:nc≤1000) (b2:nm≤1000) (b3:ng≤1000) (b4:dD nc (fun i=>ls i 0)=true) (h1:nc≤3) (h2:nm≤4) (h3:ng≤6) (h:ru nc (fun i=>ls i 0)=true) (h0:1≤nc) (q:zl nc (fun i=>ls i 0) (fun i=>fr i 0) (fun i=>fi i 1) (fun i=>fi i 2) (fun i=>fi i 3) (fun i=>fi i 4)=true) (q2:avB nc nm fm=true) (ln:lnB nc (fun i=>ls i 0)=true) (q3:agB nc (fun i=>ls i 0) (fun i=>fr i 0) nm ng (fun i=>gi i 0) (fun i=>gi i 1) (fun i=>gi i 2) (fun i=>gi i 3)=true):VC (bi Try.prog XCc 600 12 (enc [.st [.rw [.r 2,.i,.i,.i,.i] nc fi fb ls fr,.sl 4 nm fm,.rw [.i,.i,.i,.i,.b] ng gi gb gl gr]] 0) 3 (fun v=>bC v (.int .i64 0))) (.go 7157643020244107659266 .nil):=ay (((not (ai (nc:Int) 3))=false∧((not (ai (nm:Int) 4))=false∧((not (ai (ng:Int) 6))=false∧((cond (cond (aF 0 (ah 0 [.r 2,.i,.i,.i,.i] fi fb ls fr) [.r 2,.i,.i,.i,.i] nc 5) true false) (cond (dD nc (fun i=>ls i 0)) (Nat.ble nc 1000000) false) false)=true∧((not (ru nc (fun i=>ls i 0)))=false∧((not (ai (nc:Int) 0))=true∧((cond (cond (aF 0 (ah 0 [.r 2,.i,.i,.i,.i] fi fb ls fr) [.r 2,.i,.i,.i,.i] nc 5) true false) (cond (ru nc (fun i=>ls i 0)) (Nat.ble nc 1000000) false) false)=true∧((zl nc (fun i=>ls i 0) (fun i=>fr i 0) (fun i=>fi i 1) (fun i=>fi i 2) (fun i=>fi i 3) (fun i=>fi i 4))=true∧((cond (cond (aO .i64 (ae .i64 fm) nm 4) (cond (cond (aF 0 (ah 0 [.r 2,.i,.i,.i,.i] fi fb ls fr) [.r 2,.i,.i,.i,.i] nc 5) (cond (aO .i64 (ae .i64 fm) nm 4) (cond (aF 2 (ah 2 [.i,.i,.i,.i,.b] gi gb gl gr) [.i,.i,.i,.i,.b] ng 5) true false) false) false) true false) false) (cond (Nat.ble nc 3) (Nat.ble nm 1000000) false) false)=true∧((avB nc nm fm)=true∧((cond (cond (aF 2 (ah 2 [.i,.i,.i,.i,.b] gi gb gl gr) [.i,.i,.i,.i,.b] ng 5) (cond (cond (aF 0 (ah 0 [.r 2,.i,.i,.i,.i] fi fb ls fr) [.r 2,.i,.i,.i,.i] nc 5) (cond (aO .i64 (ae .i64 fm) nm 4) (cond (aF 2 (ah 2 [.i,.i,.i,.i,.b] gi gb gl gr) [.i,.i,.i,.i,.b] ng 5) true false) false) false) true false) false) (cond (Nat.ble nc 3) (cond (Nat.ble nm 4) (cond (lnB nc (fun i=>ls i 0)) (Nat.ble ng 1000000) false) false) false) false)=true∧((not (agB nc (fun i=>ls i 0) (fun i=>fr i 0) nm ng (fun i=>gi i 0) (fun i=>gi i 1) (fun i=>gi i 2) (fun i=>gi i 3)))=false∧(((0):Int)=0))))))))))))))
def Gm:Val:=fun das=>match das with | [.st [.rw [.r 2,.i,.i,.i,.i] nc fi fb ls fr,.sl 4 nm fm,.rw [.i,.i,.i,.i,.b] ng gi gb gl gr]]=>some ((cond (Nat.ble nc 1000) (cond (Nat.ble nm 1000) (cond (Nat.ble ng 1000) (dD nc (fun i=>ls i 0)) false) false) false),.int .i64 (ceE nc (fun i=>ls i 0) (fun i=>fr i 0) (fun i=>fi i 1) (fun i=>fi i 2) (fun i=>fi i 3) (fun i=>fi i 4) nm fm ng (fun i=>gi i 0) (fun i=>gi i 1) (fun i=>gi i 2) (fun i=>gi i 3))) | _=>none
theorem Lt {nc:Nat} {l:Nat→Nat} {r:Nat→Nat→Nat→Int} {c1 c2 c3 c4:Nat→Int} (h:ru nc l=true) (q:zl nc l r c1 c2 c3 c4=true):lnB nc l=true:=bu fun i hi=>by
 have a:=Nat.le_of_ble_eq_true (aQ h i hi)
 have b:=aQ q i hi
 obtain ⟨b,_⟩:=ax (show cond (cu (l i) (r i)) (cond (rgK (c1 i) (c2 i) 0 (r i (l i-1) 1)) (rgK (c3 i) (c4 i) 0 4) false) false=true from b)
 exact bY (Nat.ble_eq_true_of_le (mkB_t.mp b).two) (Nat.ble_eq_true_of_le a)
theorem Ox:zA Try.prog 12 Gm:=by
 intro das v hv
 unfold Gm at hv
 split at hv
 ·rename_i nc fi fb ls fr nm fm ng gi gb gl gr
  have hb:=congrArg Prod.fst (Option.some.inj hv)
  have hv:=congrArg Prod.snd (Option.some.inj hv)
  subst hv
  obtain ⟨b1,hb⟩:=ax hb
  obtain ⟨b2,hb⟩:=ax hb
  obtain ⟨b3,b4⟩:=ax hb
  have b1:=Nat.le_of_ble_eq_true b1
  have b2:=Nat.le_of_ble_eq_true b2
  have b3:=Nat.le_of_ble_eq_true b3
  by_cases h:nc≤3∧nm≤4∧ng≤6
  ·obtain ⟨h1,h2,h3⟩:=h
   cases hf:ru nc (fun i=>ls i 0) with
   | false =>
    have e:(ceE nc (fun i=>ls i 0) (fun i=>fr i 0) (fun i=>fi i 1) (fun i=>fi i 2) (fun i=>fi i 3) (fun i=>fi i 4) nm fm ng (fun i=>gi i 0) (fun i=>gi i 1) (fun i=>gi i 2) (fun i=>gi i 3))=3:=by unfold ceE;rw [Nat.ble_eq_true_of_le h1,Nat.ble_eq_true_of_le h2,Nat.ble_eq_true_of_le h3,hf];rfl
    rw [e]
    exact aJ au qU rfl (das:=[.st [.rw [.r 2,.i,.i,.i,.i] nc fi fb ls fr,.sl 4 nm fm,.rw [.i,.i,.i,.i,.b] ng gi gb gl gr]]) (ck1 nc fi fb ls fr nm fm ng gi gb gl gr b1 b2 b3 b4 h1 h2 h3 hf)
   | true =>
    have e0:(ceE nc (fun i=>ls i 0) (fun i=>fr i 0) (fun i=>fi i 1) (fun i=>fi i 2) (fun i=>fi i 3) (fun i=>fi i 4) nm fm ng (fun i=>gi i 0) (fun i=>gi i 1) (fun i=>gi i 2) (fun i=>gi i 3))=cond (Nat.ble 1 nc) (cond (zl nc (fun i=>ls i 0) (fun i=>fr i 0) (fun i=>fi i 1) (fun i=>fi i 2) (fun i=>fi i 3) (fun i=>fi i 4)) (cond (avB nc nm fm) (cond (agB nc (fun i=>ls i 0) (fun i=>fr i 0) nm ng (fun i=>gi i 0) (fun i=>gi i 1) (fun i=>gi i 2) (fun i=>gi i 3)) 0 1) 1) 1) 1:=by unfold ceE;rw [Nat.ble_eq_true_of_le h1,Nat.ble_eq_true_of_le h2,Nat.ble_eq_true_of_le h3,hf];rfl
    rw [e0]
    by_cases h0:nc=0
    ·rw [show Nat.ble 1 nc=false by rw [h0];rfl]
     exact aJ au qU rfl (das:=[.st [.rw [.r 2,.i,.i,.i,.i] nc fi fb ls fr,.sl 4 nm fm,.rw [.i,.i,.i,.i,.b] ng gi gb gl gr]]) (ck2 nc fi fb ls fr nm fm ng gi gb gl gr b1 b2 b3 b4 h1 h2 h3 hf h0)
    ·rw [Nat.ble_eq_true_of_le (show 1≤nc by omega)]
     cases q:zl nc (fun i=>ls i 0) (fun i=>fr i 0) (fun i=>fi i 1) (fun i=>fi i 2) (fun i=>fi i 3) (fun i=>fi i 4) with
     | false=>exact aJ au qU rfl (das:=[.st [.rw [.r 2,.i,.i,.i,.i] nc fi fb ls fr,.sl 4 nm fm,.rw [.i,.i,.i,.i,.b] ng gi gb gl gr]]) (ck3 nc fi fb ls fr nm fm ng gi gb gl gr b1 b2 b3 b4 h1 h2 h3 hf (by omega) q)
     | true =>
      cases q2:avB nc nm fm with
      | false=>exact aJ au qU rfl (das:=[.st [.rw [.r 2,.i,.i,.i,.i] nc fi fb ls fr,.sl 4 nm fm,.rw [.i,.i,.i,.i,.b] ng gi gb gl gr]]) (ck4 nc fi fb ls fr nm fm ng gi gb gl gr b1 b2 b3 b4 h1 h2 h3 hf (by omega) q q2)
      | true =>
       cases q3:agB nc (fun i=>ls i 0) (fun i=>fr i 0) nm ng (fun i=>gi i 0) (fun i=>gi i 1) (fun i=>gi i 2) (fun i=>gi i 3) with
       | false=>exact aJ au qU rfl (das:=[.st [.rw [.r 2,.i,.i,.i,.i] nc fi fb ls fr,.sl 4 nm fm,.rw [.i,.i,.i,.i,.b] ng gi gb gl gr]]) (ck5 nc fi fb ls fr nm fm ng gi gb gl gr b1 b2 b3 b4 h1 h2 h3 hf (by omega) q q2 (Lt hf q) q3)
       | true=>exact aJ au qU rfl (das:=[.st [.rw [.r 2,.i,.i,.i,.i] nc fi fb ls fr,.sl 4 nm fm,.rw [.i,.i,.i,.i,.b] ng gi gb gl gr]]) (ck6 nc fi fb ls fr nm fm ng gi gb gl gr b1 b2 b3 b4 h1 h2 h3 hf (by omega) q q2 (Lt hf q) q3)
  ·have e:(ceE nc (fun i=>ls i 0) (fun i=>fr i 0) (fun i=>fi i 1) (fun i=>fi i 2) (fun i=>fi i 3) (fun i=>fi i 4) nm fm ng (fun i=>gi i 0) (fun i=>gi i 1) (fun i=>gi i 2) (fun i=>gi i 3))=3:=by
    unfold ceE
    cases z1:Nat.ble nc 3 with
    | false=>rfl
    | true =>
     cases z2:Nat.ble nm 4 with
     | false=>rfl
     | true =>
      cases z3:Nat.ble ng 6 with
      | false=>rfl
      | true=>exact absurd ⟨Nat.le_of_ble_eq_true z1,Nat.le_of_ble_eq_true z2,Nat.le_of_ble_eq_true z3⟩ h
   rw [e]
   exact aJ au qU rfl (das:=[.st [.rw [.r 2,.i,.i,.i,.i] nc fi fb ls fr,.sl 4 nm fm,.rw [.i,.i,.i,.i,.b] ng gi gb gl gr]]) (ck0 nc fi fb ls fr nm fm ng gi gb gl gr b1 b2 b3 b4 h)
 ·cases hv
def az (nc:Nat) (fi:Nat→Nat→Int) (ls:Nat→Nat→Nat) (fr:Nat→Nat→Nat→Nat→Int) (nm:Nat) (fm:Nat→Nat→Int) (ng:Nat) (gi:Nat→Nat→Int):Int:=ceE nc (fun i=>ls i 0) (fun i=>fr i 0) (fun i=>fi i 1) (fun i=>fi i 2) (fun i=>fi i 3) (fun i=>fi i 4) nm fm ng (fun i=>gi i 0) (fun i=>gi i 1) (fun i=>gi i 2) (fun i=>gi i 3)
end
end Go.Proofs.Ytflblednifbleaa
