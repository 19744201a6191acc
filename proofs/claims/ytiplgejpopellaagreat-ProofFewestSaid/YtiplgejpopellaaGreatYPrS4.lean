/- Casks: Blend, as a contract. -/
import Derived.Test.YtiplgejpopellaaGreatYPrS3
set_option linter.all false
set_option linter.unusedSimpArgs false
set_option linter.unusedVariables false
namespace Go.Proofs.YtiplgejpopellaaGreat
namespace BL
open Go Go.Ev
set_option maxRecDepth 1000000
set_option maxHeartbeats 0
noncomputable section
variable (A:Nat) (B:Nat→Nat→Int) (I:Nat) (J:Nat→Nat→Int) (n:Nat) (M:Nat→Nat) (f:Nat→Nat→Nat→Int)
def XBd:Ext:=jO [(30,cf Ee),(32,cfS Jq),(41,cf aaS),(44,cf TM)] false
theorem bd1 (r:Int) (O:Nat) (E:Nat→Nat→Int) (m:Nat) (g:Nat→Nat→Int) (w:Int) (s:oQ A I n M=true) (kn:O≤1000) (km:m≤1000) (h:¬ gW A B I J n M f r O E=0):VC (dh Tryz.prog XBd 300 18 (enc [.st [.sl 1 A B,.sl 1 I J,.rr 1 n M f,.i .i64 r,.sl 5 O E],.one (.sl 1 m g),.one (.i .i64 w)] 0) 5 (fun v=>dB v (.tup [.agg 2 (T.setL .lf 0 [.int .i64 0,.int .i64 0]),.int .i64 (gW A B I J n M f r O E)]))) (.go 21 .nil):=ai (((cond (cond (cond (ay .i64 (ae .i64 B) A 1) (cond (ay .i64 (ae .i64 J) I 1) (cond (cond true (fZ 2 (aQ 2 1 M f) n 1) false) (cond (ay .i64 (ae .i64 E) O 5) true false) false) false) false) true false) (cond (oQ A I n M) (Nat.ble O 1000) false) false)=true∧((not (bY (gW A B I J n M f r O E) 0))=true∧(((((0):Int)=0)∧((((0):Int)=0)∧True))∧((((gW A B I J n M f r O E):Int)=(gW A B I J n M f r O E))∧True)))))
theorem bd2 (r:Int) (O:Nat) (E:Nat→Nat→Int) (m:Nat) (g:Nat→Nat→Int) (w:Int) (s:oQ A I n M=true) (h:gW A B I J n M f r O E=0) (h1:aT A B I J n M f=0) (h2:O≤6) (h3:kC A B I J E O=true) (km:m≤1000) (h4:hbB O g m=false):VC (dh Tryz.prog XBd 300 18 (enc [.st [.sl 1 A B,.sl 1 I J,.rr 1 n M f,.i .i64 r,.sl 5 O E],.one (.sl 1 m g),.one (.i .i64 w)] 0) 5 (fun v=>dB v (.tup [.agg 2 (T.setL .lf 0 [.int .i64 0,.int .i64 0]),.int .i64 2]))) (.go 345 .nil):=ai (((cond (cond (cond (ay .i64 (ae .i64 B) A 1) (cond (ay .i64 (ae .i64 J) I 1) (cond (cond true (fZ 2 (aQ 2 1 M f) n 1) false) (cond (ay .i64 (ae .i64 E) O 5) true false) false) false) false) true false) (cond (oQ A I n M) (Nat.ble O 1000) false) false)=true∧((not (bY (gW A B I J n M f r O E) 0))=false∧((cond (cond (cond (ay .i64 (ae .i64 B) A 1) (cond (ay .i64 (ae .i64 J) I 1) (cond (cond true (fZ 2 (aQ 2 1 M f) n 1) false) (cond (ay .i64 (ae .i64 E) O 5) true false) false) false) false) (cond (ay .i64 (ae .i64 g) m 1) true false) false) (cond (Nat.ble O 1000000) (Nat.ble m 1000000) false) false)=true∧((not (hbB O g m))=true∧(((((0):Int)=0)∧((((0):Int)=0)∧True))∧((((2):Int)=2)∧True)))))))
def bdE (A:Nat) (B:Nat→Nat→Int) (I:Nat) (J:Nat→Nat→Int) (n:Nat) (M:Nat→Nat) (f:Nat→Nat→Nat→Int) (r:Int) (O:Nat) (E:Nat→Nat→Int) (m:Nat) (g:Nat→Nat→Int) (w:Int):Int:=cond (bY (gW A B I J n M f r O E) 0) (cond (hbB O g m) (cond (ak 0 w) (cond (ak w 99) 0 2) 2) 2) (gW A B I J n M f r O E)
def dO (A:Nat) (B:Nat→Nat→Int) (I:Nat) (J:Nat→Nat→Int) (n:Nat) (M:Nat→Nat) (f:Nat→Nat→Nat→Int) (r:Int) (O:Nat) (E:Nat→Nat→Int) (m:Nat) (g:Nat→Nat→Int) (w:Int):Int:=cond (bY (bdE A B I J n M f r O E m g w) 0) (blV E g w (jG A B I J f O E 0) (jG A B I J f O E 1) (jG A B I J f O E 2) (jG A B I J f O E 3) (jG A B I J f O E 4) (jG A B I J f O E 5) m) 0
def dP (A:Nat) (B:Nat→Nat→Int) (I:Nat) (J:Nat→Nat→Int) (n:Nat) (M:Nat→Nat) (f:Nat→Nat→Nat→Int) (r:Int) (O:Nat) (E:Nat→Nat→Int) (m:Nat) (g:Nat→Nat→Int) (w:Int):Int:=cond (bY (bdE A B I J n M f r O E m g w) 0) (blV E g w (jo A B I J f O E 0) (jo A B I J f O E 1) (jo A B I J f O E 2) (jo A B I J f O E 3) (jo A B I J f O E 4) (jo A B I J f O E 5) m) 0
theorem ZJ {O:Nat} {E:Nat→Nat→Int} {k:Nat} {g:Nat→Nat→Int} {w:Int} (hw:0≤w) (h:∀ i,i<k→1≤E (Int.toNat (g i 0)) 0):∀ i,i≤k→(i:Int)≤lD E g w i:=by
 intro i
 induction i with
 | zero=>intro _;exact hw
 | succ i ih =>
  intro hi
  have:=ih (by omega)
  have e:=h i (by omega)
  rw [xE];omega
theorem Yb (A:Nat) (B:Nat→Nat→Int) (I:Nat) (J:Nat→Nat→Int) (n:Nat) (M:Nat→Nat) (f:Nat→Nat→Nat→Int) (r:Int) (O:Nat) (E:Nat→Nat→Int) (m:Nat) (g:Nat→Nat→Int) (w:Int) {t0 t1 t2 t3 t4 t5:Int} (ok:StOk A B I J n M f r O E) (ht:tnB O E t0 t1 t2 t3 t4 t5=true) (hb:hbB O g m=true) (km:m≤1000) (h5:0≤w) (h6:w≤99):blB O E m g w t0 t1 t2 t3 t4 t5=true:=by
 obtain ⟨p1,p2⟩:=ah hb
 obtain ⟨p2,_⟩:=ah p2
 have p1:0<m:=by
  cases m with
  | zero=>cases p1
  | succ j=>omega
 have hg:∀ i,i<m→1≤E (Int.toNat (g i 0)) 0:=fun i hi=>by
  have q:=aX p2 i hi
  unfold inH at q
  rw [gp] at q
  exact (ok.cask (Int.toNat (g i 0)) (by omega)).1.1
 have hs:=ZJ (O:=O) h5 hg m (Nat.le_refl m)
 exact aI ht (aI (dV km) (aI (by rw [aW];exact h5) (aI (by rw [aW];omega) (aI p2 (by rw [aW];omega)))))
end
end BL
end Go.Proofs.YtiplgejpopellaaGreat
