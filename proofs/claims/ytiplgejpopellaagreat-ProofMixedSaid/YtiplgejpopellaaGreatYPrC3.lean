/- Casks: contracts: Strengths, Tenths, Duty, Duties. -/
import Derived.Test.YtiplgejpopellaaGreatYPrC2
set_option linter.all false
set_option linter.unusedSimpArgs false
set_option linter.unusedVariables false
namespace Go.Proofs.YtiplgejpopellaaGreat
open Go Go.Ev
set_option maxRecDepth 1000000
set_option maxHeartbeats 0
noncomputable section
variable (A:Nat) (B:Nat→Nat→Int) (I:Nat) (J:Nat→Nat→Int) (n:Nat) (M:Nat→Nat) (f:Nat→Nat→Nat→Int)
def mnI (a b:Int):Int:=cond (ax a b) a b
def htV (l0 l1 l2 l3 l4 l5 h0 h1 h2 h3 h4 h5 t0 t1 t2 t3 t4 t5:Int):Bool:=cond (cond (aY (mnI l0 t0) (l0)) (cond (aY (mnI l1 t1) (l1)) (cond (aY (mnI l2 t2) (l2)) (cond (aY (mnI l3 t3) (l3)) (cond (aY (mnI l4 t4) (l4)) (cond (aY (mnI l5 t5) (l5)) true false) false) false) false) false) false) (cond (aY (mnI h0 t0) (t0)) (cond (aY (mnI h1 t1) (t1)) (cond (aY (mnI h2 t2) (t2)) (cond (aY (mnI h3 t3) (t3)) (cond (aY (mnI h4 t4) (t4)) (cond (aY (mnI h5 t5) (t5)) true false) false) false) false) false) false) false
def htW (k O:Nat) (l0 l1 l2 l3 l4 l5 h0 h1 h2 h3 h4 h5:Int) (t:Nat→Nat→Int):Bool:=cond (Nat.beq k O) (htV l0 l1 l2 l3 l4 l5 h0 h1 h2 h3 h4 h5 (cu k t 0) (cu k t 1) (cu k t 2) (cu k t 3) (cu k t 4) (cu k t 5)) false
def XHt:Ext:=ku [(48,cf LX)] false
theorem TV:dE Tryz.prog XHt:=dH (aA (dw Xm) bJ)
theorem ht1 (r:Int) (O:Nat) (E:Nat→Nat→Int) (l0 l1 l2 l3 l4 l5 h0 h1 h2 h3 h4 h5:Int) (k:Nat) (t:Nat→Nat→Int) (h:¬ k=O):VC (bK Tryz.prog XHt 600 46 (enc [.st [.sl 1 A B,.sl 1 I J,.rr 1 n M f,.i .i64 r,.sl 5 O E,.i .i64 l0,.i .i64 l1,.i .i64 l2,.i .i64 l3,.i .i64 l4,.i .i64 l5,.i .i64 h0,.i .i64 h1,.i .i64 h2,.i .i64 h3,.i .i64 h4,.i .i64 h5],.one (.sl 1 k t)] 0) 5 (fun v=>bW v (.bool false))) (.go 5 .nil):=ai (((not (aY (k:Int) (O:Int)))=true∧(false=false)))
theorem ht2 (r:Int) (O:Nat) (E:Nat→Nat→Int) (l0 l1 l2 l3 l4 l5 h0 h1 h2 h3 h4 h5:Int) (t:Nat→Nat→Int) (h:O≤6):VC (bK Tryz.prog XHt 900 46 (enc [.st [.sl 1 A B,.sl 1 I J,.rr 1 n M f,.i .i64 r,.sl 5 O E,.i .i64 l0,.i .i64 l1,.i .i64 l2,.i .i64 l3,.i .i64 l4,.i .i64 l5,.i .i64 h0,.i .i64 h1,.i .i64 h2,.i .i64 h3,.i .i64 h4,.i .i64 h5],.one (.sl 1 O t)] 0) 5 (fun v=>bW v (.bool (htV l0 l1 l2 l3 l4 l5 h0 h1 h2 h3 h4 h5 (cu O t 0) (cu O t 1) (cu O t 2) (cu O t 3) (cu O t 4) (cu O t 5))))) (.go 18889465931478580854790 (.sp .nil .nil)):=ai (((not (aY (O:Int) (O:Int)))=false∧((cond (cond (aV .i64 (ae .i64 t) O 1) true false) (Nat.ble O 6) false)=true∧(((cond (aY (cond (ax l0 (cu O t 0)) l0 (cu O t 0)) l0) (cond (aY (cond (ax l1 (cu O t 1)) l1 (cu O t 1)) l1) (cond (aY (cond (ax l2 (cu O t 2)) l2 (cu O t 2)) l2) (cond (aY (cond (ax l3 (cu O t 3)) l3 (cu O t 3)) l3) (cond (aY (cond (ax l4 (cu O t 4)) l4 (cu O t 4)) l4) (cond (aY (cond (ax l5 (cu O t 5)) l5 (cu O t 5)) l5) true false) false) false) false) false) false)=true→((cond (aY (cond (ax h0 (cu O t 0)) h0 (cu O t 0)) (cu O t 0)) (cond (aY (cond (ax h1 (cu O t 1)) h1 (cu O t 1)) (cu O t 1)) (cond (aY (cond (ax h2 (cu O t 2)) h2 (cu O t 2)) (cu O t 2)) (cond (aY (cond (ax h3 (cu O t 3)) h3 (cu O t 3)) (cu O t 3)) (cond (aY (cond (ax h4 (cu O t 4)) h4 (cu O t 4)) (cu O t 4)) (cond (aY (cond (ax h5 (cu O t 5)) h5 (cu O t 5)) (cu O t 5)) true false) false) false) false) false) false)=(cond (cond (aY (cond (ax l0 (cu O t 0)) l0 (cu O t 0)) l0) (cond (aY (cond (ax l1 (cu O t 1)) l1 (cu O t 1)) l1) (cond (aY (cond (ax l2 (cu O t 2)) l2 (cu O t 2)) l2) (cond (aY (cond (ax l3 (cu O t 3)) l3 (cu O t 3)) l3) (cond (aY (cond (ax l4 (cu O t 4)) l4 (cu O t 4)) l4) (cond (aY (cond (ax l5 (cu O t 5)) l5 (cu O t 5)) l5) true false) false) false) false) false) false) (cond (aY (cond (ax h0 (cu O t 0)) h0 (cu O t 0)) (cu O t 0)) (cond (aY (cond (ax h1 (cu O t 1)) h1 (cu O t 1)) (cu O t 1)) (cond (aY (cond (ax h2 (cu O t 2)) h2 (cu O t 2)) (cu O t 2)) (cond (aY (cond (ax h3 (cu O t 3)) h3 (cu O t 3)) (cu O t 3)) (cond (aY (cond (ax h4 (cu O t 4)) h4 (cu O t 4)) (cu O t 4)) (cond (aY (cond (ax h5 (cu O t 5)) h5 (cu O t 5)) (cu O t 5)) true false) false) false) false) false) false) false))) ∧
 ((cond (aY (cond (ax l0 (cu O t 0)) l0 (cu O t 0)) l0) (cond (aY (cond (ax l1 (cu O t 1)) l1 (cu O t 1)) l1) (cond (aY (cond (ax l2 (cu O t 2)) l2 (cu O t 2)) l2) (cond (aY (cond (ax l3 (cu O t 3)) l3 (cu O t 3)) l3) (cond (aY (cond (ax l4 (cu O t 4)) l4 (cu O t 4)) l4) (cond (aY (cond (ax l5 (cu O t 5)) l5 (cu O t 5)) l5) true false) false) false) false) false) false)=false→(false=(cond (cond (aY (cond (ax l0 (cu O t 0)) l0 (cu O t 0)) l0) (cond (aY (cond (ax l1 (cu O t 1)) l1 (cu O t 1)) l1) (cond (aY (cond (ax l2 (cu O t 2)) l2 (cu O t 2)) l2) (cond (aY (cond (ax l3 (cu O t 3)) l3 (cu O t 3)) l3) (cond (aY (cond (ax l4 (cu O t 4)) l4 (cu O t 4)) l4) (cond (aY (cond (ax l5 (cu O t 5)) l5 (cu O t 5)) l5) true false) false) false) false) false) false) (cond (aY (cond (ax h0 (cu O t 0)) h0 (cu O t 0)) (cu O t 0)) (cond (aY (cond (ax h1 (cu O t 1)) h1 (cu O t 1)) (cu O t 1)) (cond (aY (cond (ax h2 (cu O t 2)) h2 (cu O t 2)) (cu O t 2)) (cond (aY (cond (ax h3 (cu O t 3)) h3 (cu O t 3)) (cu O t 3)) (cond (aY (cond (ax h4 (cu O t 4)) h4 (cu O t 4)) (cu O t 4)) (cond (aY (cond (ax h5 (cu O t 5)) h5 (cu O t 5)) (cu O t 5)) true false) false) false) false) false) false) false))))))) (q:=by
 (repeat' (first | exact True.intro | (with_reducible rfl) | (intro hh;(try simp only [hh,cond_true,cond_false])) | refine And.intro ?_ ?_));all_goals (exact Jr))
def Ui:Val:=fun das=>match das with | [.st [.sl 1 A B,.sl 1 I J,.rr 1 n M f,.i .i64 r,.sl 5 O E,.i .i64 l0,.i .i64 l1,.i .i64 l2,.i .i64 l3,.i .i64 l4,.i .i64 l5,.i .i64 h0,.i .i64 h1,.i .i64 h2,.i .i64 h3,.i .i64 h4,.i .i64 h5],.one (.sl 1 k t)]=>some (Nat.ble O 6,.bool (htW k O l0 l1 l2 l3 l4 l5 h0 h1 h2 h3 h4 h5 t)) | _=>none
theorem Zp:qi Tryz.prog 46 Ui:=by
 intro das v hv
 unfold Ui at hv
 split at hv
 ·rename_i A B I J n M f r O E l0 l1 l2 l3 l4 l5 h0 h1 h2 h3 h4 h5 k t
  have hb:=congrArg Prod.fst (Option.some.inj hv)
  have hv:=congrArg Prod.snd (Option.some.inj hv)
  subst hv
  have hb:=Nat.le_of_ble_eq_true hb
  by_cases h:k=O
  ·subst h
   have e:htW k k l0 l1 l2 l3 l4 l5 h0 h1 h2 h3 h4 h5 t=htV l0 l1 l2 l3 l4 l5 h0 h1 h2 h3 h4 h5 (cu k t 0) (cu k t 1) (cu k t 2) (cu k t 3) (cu k t 4) (cu k t 5):=by
    unfold htW
    rw [show Nat.beq k k=true from Nat.beq_refl k];rfl
   rw [e]
   exact aK aj TV rfl (das:=[.st [.sl 1 A B,.sl 1 I J,.rr 1 n M f,.i .i64 r,.sl 5 k E,.i .i64 l0,.i .i64 l1,.i .i64 l2,.i .i64 l3,.i .i64 l4,.i .i64 l5,.i .i64 h0,.i .i64 h1,.i .i64 h2,.i .i64 h3,.i .i64 h4,.i .i64 h5],.one (.sl 1 k t)]) (ht2 A B I J n M f r k E l0 l1 l2 l3 l4 l5 h0 h1 h2 h3 h4 h5 t hb)
  ·have e:htW k O l0 l1 l2 l3 l4 l5 h0 h1 h2 h3 h4 h5 t=false:=by
    unfold htW
    rw [show Nat.beq k O=false from (oQ _ _).mpr h];rfl
   rw [e]
   exact aK aj TV rfl (das:=[.st [.sl 1 A B,.sl 1 I J,.rr 1 n M f,.i .i64 r,.sl 5 O E,.i .i64 l0,.i .i64 l1,.i .i64 l2,.i .i64 l3,.i .i64 l4,.i .i64 l5,.i .i64 h0,.i .i64 h1,.i .i64 h2,.i .i64 h3,.i .i64 h4,.i .i64 h5],.one (.sl 1 k t)]) (ht1 A B I J n M f r O E l0 l1 l2 l3 l4 l5 h0 h1 h2 h3 h4 h5 k t h)
 ·cases hv
def XSs:Ext:=ku [(30,cf Gw),(40,cfS KZ),(32,cfS KA),(48,cf LX),(46,cf Ui),(47,cfS MQ),(49,cf SB)] false
theorem Pv:dE Tryz.prog XSs:=dH (aA (dw RU)<|aA (lI Xx)<|aA (lI WM)<|aA (dw Xm)<|aA (dw Zp)<|aA (lI Xp)<|aA (dw ZN) bJ)
theorem ss1 (r:Int) (O:Nat) (E:Nat→Nat→Int) (s:nT A I n M=true) (g:O≤1000) (h:¬ fM A B I J n M f r O E=0):VC (aI Tryz.prog XSs 300 17 (enc [.st [.sl 1 A B,.sl 1 I J,.rr 1 n M f,.i .i64 r,.sl 5 O E]] 0) 4 (fun v H=>gy 4 H v (.tup [.one (.new (.sl 2 0 (bZ A B I J f E))),.one (.new (.i .i64 (fM A B I J n M f r O E)))]))) (.go 21 .nil):=ai (((cond (cond (cond (aV .i64 (ae .i64 B) A 1) (cond (aV .i64 (ae .i64 J) I 1) (cond (cond true (je 2 (aC 2 1 M f) n 1) false) (cond (aV .i64 (ae .i64 E) O 5) true false) false) false) false) true false) (cond (nT A I n M) (Nat.ble O 1000) false) false)=true∧((not (aY (fM A B I J n M f r O E) 0))=true∧((((0):Int)=0)∧((((fM A B I J n M f r O E):Int)=(fM A B I J n M f r O E))∧True)))))
theorem ss2 (r:Int) (O:Nat) (E:Nat→Nat→Int) (s:nT A I n M=true) (h:fM A B I J n M f r O E=0) (h1:aX A B I J n M f=0) (h2:O≤6) (h3:mf A B I J E O=true):VC (aI Tryz.prog XSs 300 17 (enc [.st [.sl 1 A B,.sl 1 I J,.rr 1 n M f,.i .i64 r,.sl 5 O E]] 0) 4 (fun v H=>gy 4 H v (.tup [.one (.new (.sl 2 O (bZ A B I J f E))),.one (.new (.i .i64 0))]))) (.go 89 .nil):=ai (((cond (cond (cond (aV .i64 (ae .i64 B) A 1) (cond (aV .i64 (ae .i64 J) I 1) (cond (cond true (je 2 (aC 2 1 M f) n 1) false) (cond (aV .i64 (ae .i64 E) O 5) true false) false) false) false) true false) (cond (nT A I n M) (Nat.ble O 1000) false) false)=true∧((not (aY (fM A B I J n M f r O E) 0))=false∧((cond (cond (cond (aV .i64 (ae .i64 B) A 1) (cond (aV .i64 (ae .i64 J) I 1) (cond (cond true (je 2 (aC 2 1 M f) n 1) false) (cond (aV .i64 (ae .i64 E) O 5) true false) false) false) false) true false) (cond (aY (aX A B I J n M f) 0) (cond (Nat.ble O 6) (mf A B I J E O) false) false) false)=true∧((((V.fz true 7 (fun i j =>
 V.int IntKind.i64
  (bZ A (fun i j=>cZ (ae .i64 B i j)) I (fun i j=>cZ (ae .i64 J i j))
   (fun i j k=>cZ (mG (aC (lJ (D0.sl 1 I J) (lJ (D0.sl 1 A B) 0)) 1 M f i 0) j k))
   (fun i j=>cZ (ae .i64 E i j)) i j)) O 2):V)=(V.fz true 7 (fun i j=>V.int IntKind.i64 (bZ A B I J f E i j)) O 2))∧((((0):Int)=(0))∧True))))))
end
end Go.Proofs.YtiplgejpopellaaGreat
