/- Casks: Blend, as a contract. -/
import Derived.Test.YtiplgejpopellaaGreatYPrS3
set_option linter.all false
set_option linter.unusedSimpArgs false
set_option linter.unusedVariables false
namespace Go.Proofs.YtiplgejpopellaaGreat
namespace BL
open Go Go.Ev
set_option maxRecDepth 1000000
set_option maxHeartbeats 0
noncomputable section
variable (A:Nat) (B:Nat→Nat→Int) (I:Nat) (J:Nat→Nat→Int) (n:Nat) (M:Nat→Nat) (f:Nat→Nat→Nat→Int)
def XBd:Ext:=jI [(30,cf FI),(32,cfS MH),(41,cf Rz),(44,cf Rt)] false
theorem Dt:dH Tryz.prog XBd:=dJ (aB (dB QK)<|aB (tZ V8)<|aB (dB ZH)<|aB (dB V7) bD)
theorem bd1 (r:Int) (O:Nat) (E:Nat→Nat→Int) (m:Nat) (g:Nat→Nat→Int) (w:Int) (s:lD A I n M=true) (kn:O≤1000) (km:m≤1000) (h:¬ iH A B I J n M f r O E=0):VC (bQ Tryz.prog XBd 300 18 (enc [.st [.sl 1 A B,.sl 1 I J,.rr 1 n M f,.i .i64 r,.sl 5 O E],.one (.sl 1 m g),.one (.i .i64 w)] 0) 5 (fun v=>bZ v (.tup [.agg 2 (T.setL .lf 0 [.int .i64 0,.int .i64 0]),.int .i64 (iH A B I J n M f r O E)]))) (.go 21 .nil):=ak (((cond (cond (cond (aJ .i64 (ae .i64 B) A 1) (cond (aJ .i64 (ae .i64 J) I 1) (cond (cond true (dX 2 (aQ 2 1 M f) n 1) false) (cond (aJ .i64 (ae .i64 E) O 5) true false) false) false) false) true false) (cond (lD A I n M) (Nat.ble O 1000) false) false)=true∧((not (cu (iH A B I J n M f r O E) 0))=true∧(((((0):Int)=0)∧((((0):Int)=0)∧True))∧((((iH A B I J n M f r O E):Int)=(iH A B I J n M f r O E))∧True)))))
theorem bd2 (r:Int) (O:Nat) (E:Nat→Nat→Int) (m:Nat) (g:Nat→Nat→Int) (w:Int) (s:lD A I n M=true) (h:iH A B I J n M f r O E=0) (h1:aX A B I J n M f=0) (h2:O≤6) (h3:jY A B I J E O=true) (km:m≤1000) (h4:hbB O g m=false):VC (bQ Tryz.prog XBd 300 18 (enc [.st [.sl 1 A B,.sl 1 I J,.rr 1 n M f,.i .i64 r,.sl 5 O E],.one (.sl 1 m g),.one (.i .i64 w)] 0) 5 (fun v=>bZ v (.tup [.agg 2 (T.setL .lf 0 [.int .i64 0,.int .i64 0]),.int .i64 2]))) (.go 345 .nil):=ak (((cond (cond (cond (aJ .i64 (ae .i64 B) A 1) (cond (aJ .i64 (ae .i64 J) I 1) (cond (cond true (dX 2 (aQ 2 1 M f) n 1) false) (cond (aJ .i64 (ae .i64 E) O 5) true false) false) false) false) true false) (cond (lD A I n M) (Nat.ble O 1000) false) false)=true∧((not (cu (iH A B I J n M f r O E) 0))=false∧((cond (cond (cond (aJ .i64 (ae .i64 B) A 1) (cond (aJ .i64 (ae .i64 J) I 1) (cond (cond true (dX 2 (aQ 2 1 M f) n 1) false) (cond (aJ .i64 (ae .i64 E) O 5) true false) false) false) false) (cond (aJ .i64 (ae .i64 g) m 1) true false) false) (cond (Nat.ble O 1000000) (Nat.ble m 1000000) false) false)=true∧((not (BL.hbB O g m))=true∧(((((0):Int)=0)∧((((0):Int)=0)∧True))∧((((2):Int)=2)∧True)))))))
theorem bd3 (r:Int) (O:Nat) (E:Nat→Nat→Int) (m:Nat) (g:Nat→Nat→Int) (w:Int) (s:lD A I n M=true) (h:iH A B I J n M f r O E=0) (h1:aX A B I J n M f=0) (h2:O≤6) (h3:jY A B I J E O=true) (km:m≤1000) (h4:hbB O g m=true) (h5:¬ (0≤w∧w≤99)):VC (bQ Tryz.prog XBd 300 18 (enc [.st [.sl 1 A B,.sl 1 I J,.rr 1 n M f,.i .i64 r,.sl 5 O E],.one (.sl 1 m g),.one (.i .i64 w)] 0) 5 (fun v=>bZ v (.tup [.agg 2 (T.setL .lf 0 [.int .i64 0,.int .i64 0]),.int .i64 2]))) (.go 4249 (.sp (.go 20480 .nil) .nil)):=ak (((cond (cond (cond (aJ .i64 (ae .i64 B) A 1) (cond (aJ .i64 (ae .i64 J) I 1) (cond (cond true (dX 2 (aQ 2 1 M f) n 1) false) (cond (aJ .i64 (ae .i64 E) O 5) true false) false) false) false) true false) (cond (lD A I n M) (Nat.ble O 1000) false) false)=true∧((not (cu (iH A B I J n M f r O E) 0))=false∧((cond (cond (cond (aJ .i64 (ae .i64 B) A 1) (cond (aJ .i64 (ae .i64 J) I 1) (cond (cond true (dX 2 (aQ 2 1 M f) n 1) false) (cond (aJ .i64 (ae .i64 E) O 5) true false) false) false) false) (cond (aJ .i64 (ae .i64 g) m 1) true false) false) (cond (Nat.ble O 1000000) (Nat.ble m 1000000) false) false)=true∧((not (BL.hbB O g m))=false∧(((az 0 w)=true→((not (az w 99))=true∧(((((0):Int)=0)∧((((0):Int)=0)∧True))∧((((2):Int)=2)∧True)))) ∧
 ((az (0) w)=false→(((((0):Int)=(0))∧((((0):Int)=(0))∧True))∧((((2):Int)=(2))∧True)))))))))
theorem bd4 (r:Int) (O:Nat) (E:Nat→Nat→Int) (m:Nat) (g:Nat→Nat→Int) (w:Int) (s:lD A I n M=true) (h:iH A B I J n M f r O E=0) (h1:aX A B I J n M f=0) (h2:O≤6) (h3:jY A B I J E O=true) (km:m≤1000) (h4:hbB O g m=true) (h5:0≤w) (h6:w≤99) (b1:blB O E m g w (ai A B I J f O E 0) (ai A B I J f O E 1) (ai A B I J f O E 2) (ai A B I J f O E 3) (ai A B I J f O E 4) (ai A B I J f O E 5)=true) (b2:blB O E m g w (aj A B I J f O E 0) (aj A B I J f O E 1) (aj A B I J f O E 2) (aj A B I J f O E 3) (aj A B I J f O E 4) (aj A B I J f O E 5)=true):VC (bQ Tryz.prog XBd 300 18 (enc [.st [.sl 1 A B,.sl 1 I J,.rr 1 n M f,.i .i64 r,.sl 5 O E],.one (.sl 1 m g),.one (.i .i64 w)] 0) 5 (fun v=>bZ v (.tup [.agg 2 (T.setL .lf 0 [.int .i64 (blV E g w (ai A B I J f O E 0) (ai A B I J f O E 1) (ai A B I J f O E 2) (ai A B I J f O E 3) (ai A B I J f O E 4) (ai A B I J f O E 5) m),.int .i64 (blV E g w (aj A B I J f O E 0) (aj A B I J f O E 1) (aj A B I J f O E 2) (aj A B I J f O E 3) (aj A B I J f O E 4) (aj A B I J f O E 5) m)]),.int .i64 0]))) (.go 5771366553 .nil):=ak (((cond (cond (cond (aJ .i64 (ae .i64 B) A 1) (cond (aJ .i64 (ae .i64 J) I 1) (cond (cond true (dX 2 (aQ 2 1 M f) n 1) false) (cond (aJ .i64 (ae .i64 E) O 5) true false) false) false) false) true false) (cond (lD A I n M) (Nat.ble O 1000) false) false)=true∧((not (cu (iH A B I J n M f r O E) 0))=false∧((cond (cond (cond (aJ .i64 (ae .i64 B) A 1) (cond (aJ .i64 (ae .i64 J) I 1) (cond (cond true (dX 2 (aQ 2 1 M f) n 1) false) (cond (aJ .i64 (ae .i64 E) O 5) true false) false) false) false) (cond (aJ .i64 (ae .i64 g) m 1) true false) false) (cond (Nat.ble O 1000000) (Nat.ble m 1000000) false) false)=true∧((not (BL.hbB O g m))=false∧((az 0 w)=true∧((not (az w 99))=false∧((cond (cond (cond (aJ .i64 (ae .i64 B) A 1) (cond (aJ .i64 (ae .i64 J) I 1) (cond (cond true (dX 2 (aQ 2 1 M f) n 1) false) (cond (aJ .i64 (ae .i64 E) O 5) true false) false) false) false) true false) (cond (cu (aX A B I J n M f) 0) (cond (Nat.ble O 6) (jY A B I J E O) false) false) false)=true∧((cond (cond (cond (aJ .i64 (ae .i64 B) A 1) (cond (aJ .i64 (ae .i64 J) I 1) (cond (cond true (dX 2 (aQ 2 1 M f) n 1) false) (cond (aJ .i64 (ae .i64 E) O 5) true false) false) false) false) (cond (aJ .i64 (ae .i64 g) m 1) true false) false) (cond (BL.blB O E m g w (ai A B I J f O E 0) (ai A B I J f O E 1) (ai A B I J f O E 2) (ai A B I J f O E 3) (ai A B I J f O E 4) (ai A B I J f O E 5)) (BL.blB O E m g w (aj A B I J f O E 0) (aj A B I J f O E 1) (aj A B I J f O E 2) (aj A B I J f O E 3) (aj A B I J f O E 4) (aj A B I J f O E 5)) false) false)=true∧(((((BL.blV E g w (ai A B I J f O E 0) (ai A B I J f O E 1) (ai A B I J f O E 2) (ai A B I J f O E 3) (ai A B I J f O E 4) (ai A B I J f O E 5) m):Int)=(BL.blV E g w (ai A B I J f O E 0) (ai A B I J f O E 1) (ai A B I J f O E 2) (ai A B I J f O E 3) (ai A B I J f O E 4) (ai A B I J f O E 5) m))∧((((BL.blV E g w (aj A B I J f O E 0) (aj A B I J f O E 1) (aj A B I J f O E 2) (aj A B I J f O E 3) (aj A B I J f O E 4) (aj A B I J f O E 5) m):Int)=(BL.blV E g w (aj A B I J f O E 0) (aj A B I J f O E 1) (aj A B I J f O E 2) (aj A B I J f O E 3) (aj A B I J f O E 4) (aj A B I J f O E 5) m))∧True))∧((((0):Int)=0)∧True)))))))))))
def bdE (A:Nat) (B:Nat→Nat→Int) (I:Nat) (J:Nat→Nat→Int) (n:Nat) (M:Nat→Nat) (f:Nat→Nat→Nat→Int) (r:Int) (O:Nat) (E:Nat→Nat→Int) (m:Nat) (g:Nat→Nat→Int) (w:Int):Int:=cond (cu (iH A B I J n M f r O E) 0) (cond (hbB O g m) (cond (az 0 w) (cond (az w 99) 0 2) 2) 2) (iH A B I J n M f r O E)
def bdL (A:Nat) (B:Nat→Nat→Int) (I:Nat) (J:Nat→Nat→Int) (n:Nat) (M:Nat→Nat) (f:Nat→Nat→Nat→Int) (r:Int) (O:Nat) (E:Nat→Nat→Int) (m:Nat) (g:Nat→Nat→Int) (w:Int):Int:=cond (cu (bdE A B I J n M f r O E m g w) 0) (blV E g w (ai A B I J f O E 0) (ai A B I J f O E 1) (ai A B I J f O E 2) (ai A B I J f O E 3) (ai A B I J f O E 4) (ai A B I J f O E 5) m) 0
def bdH (A:Nat) (B:Nat→Nat→Int) (I:Nat) (J:Nat→Nat→Int) (n:Nat) (M:Nat→Nat) (f:Nat→Nat→Nat→Int) (r:Int) (O:Nat) (E:Nat→Nat→Int) (m:Nat) (g:Nat→Nat→Int) (w:Int):Int:=cond (cu (bdE A B I J n M f r O E m g w) 0) (blV E g w (aj A B I J f O E 0) (aj A B I J f O E 1) (aj A B I J f O E 2) (aj A B I J f O E 3) (aj A B I J f O E 4) (aj A B I J f O E 5) m) 0
theorem X4 {O:Nat} {E:Nat→Nat→Int} {k:Nat} {g:Nat→Nat→Int} {w:Int} (hw:0≤w) (h:∀ i,i<k→1≤E (Int.toNat (g i 0)) 0):∀ i,i≤k→(i:Int)≤gsm E g w i:=by
 intro i
 induction i with
 | zero=>intro _;exact hw
 | succ i ih =>
  intro hi
  have:=ih (by omega)
  have e:=h i (by omega)
  rw [BM];omega
theorem LG (A:Nat) (B:Nat→Nat→Int) (I:Nat) (J:Nat→Nat→Int) (n:Nat) (M:Nat→Nat) (f:Nat→Nat→Nat→Int) (r:Int) (O:Nat) (E:Nat→Nat→Int) (m:Nat) (g:Nat→Nat→Int) (w:Int) {t0 t1 t2 t3 t4 t5:Int} (ok:StOk A B I J n M f r O E) (ht:tnB O E t0 t1 t2 t3 t4 t5=true) (hb:hbB O g m=true) (km:m≤1000) (h5:0≤w) (h6:w≤99):blB O E m g w t0 t1 t2 t3 t4 t5=true:=by
 obtain ⟨p1,p2⟩:=ah hb
 obtain ⟨p2,_⟩:=ah p2
 have p1:0<m:=by
  cases m with
  | zero=>cases p1
  | succ j=>omega
 have hg:∀ i,i<m→1≤E (Int.toNat (g i 0)) 0:=fun i hi=>by
  have q:=aU p2 i hi
  unfold inH at q
  rw [fC] at q
  exact (ok.cask (Int.toNat (g i 0)) (by omega)).1.1
 have hs:=X4 (O:=O) h5 hg m (Nat.le_refl m)
 exact aO ht (aO (dN km) (aO (by rw [aV];exact h5) (aO (by rw [aV];omega) (aO p2 (by rw [aV];omega)))))
def Uj:Val:=fun das=>match das with | [.st [.sl 1 A B,.sl 1 I J,.rr 1 n M f,.i .i64 r,.sl 5 O E],.one (.sl 1 m g),.one (.i .i64 w)]=>some (cond (lD A I n M) (cond (Nat.ble O 1000) (Nat.ble m 1000) false) false,.tup [.agg 2 (T.setL .lf 0 [.int .i64 (bdL A B I J n M f r O E m g w),.int .i64 (bdH A B I J n M f r O E m g w)]),.int .i64 (bdE A B I J n M f r O E m g w)]) | _=>none
theorem ZO:oC Tryz.prog 18 Uj:=by
 intro das v hv
 unfold Uj at hv
 split at hv
 ·rename_i A B I J n M f r O E m g w
  have hb:=congrArg Prod.fst (Option.some.inj hv)
  have hv:=congrArg Prod.snd (Option.some.inj hv)
  subst hv
  obtain ⟨hb,hn⟩:=ah hb
  obtain ⟨hn,hm⟩:=ah hn
  have hn:=Nat.le_of_ble_eq_true hn
  have hm:=Nat.le_of_ble_eq_true hm
  have hz:∀ e:Int,bdE A B I J n M f r O E m g w=e→e≠0→bdL A B I J n M f r O E m g w=0∧bdH A B I J n M f r O E m g w=0:=fun e q qn=>by
   unfold bdL bdH
   rw [q,(eF _ _).mpr qn];exact ⟨rfl,rfl⟩
  by_cases h:iH A B I J n M f r O E=0
  ·obtain ⟨c1,c2,c3⟩:=JX A B I J n M f r O E h
   have ok:=Dh A B I J n M f r O E h
   cases h4:hbB O g m with
   | false =>
    have e:bdE A B I J n M f r O E m g w=2:=by unfold bdE;rw [h,h4];rfl
    obtain ⟨e1,e2⟩:=hz 2 e (by decide)
    rw [e,e1,e2]
    exact aY ax Dt rfl (das:=[.st [.sl 1 A B,.sl 1 I J,.rr 1 n M f,.i .i64 r,.sl 5 O E],.one (.sl 1 m g),.one (.i .i64 w)]) (bd2 A B I J n M f r O E m g w hb h c1 c2 c3 hm h4)
   | true =>
    by_cases h5:0≤w∧w≤99
    ·have e:bdE A B I J n M f r O E m g w=0:=by unfold bdE;rw [h,h4,(aV 0 w).mpr h5.1,(aV w 99).mpr h5.2];rfl
     have e1:bdL A B I J n M f r O E m g w=(blV E g w (ai A B I J f O E 0) (ai A B I J f O E 1) (ai A B I J f O E 2) (ai A B I J f O E 3) (ai A B I J f O E 4) (ai A B I J f O E 5) m):=by unfold bdL;rw [e];rfl
     have e2:bdH A B I J n M f r O E m g w=(blV E g w (aj A B I J f O E 0) (aj A B I J f O E 1) (aj A B I J f O E 2) (aj A B I J f O E 3) (aj A B I J f O E 4) (aj A B I J f O E 5) m):=by unfold bdH;rw [e];rfl
     rw [e,e1,e2]
     exact aY ax Dt rfl (das:=[.st [.sl 1 A B,.sl 1 I J,.rr 1 n M f,.i .i64 r,.sl 5 O E],.one (.sl 1 m g),.one (.i .i64 w)]) (bd4 A B I J n M f r O E m g w hb h c1 c2 c3 hm h4 h5.1 h5.2 (LG A B I J n M f r O E m g w ok (V9 A B I J n M f r O E ok) h4 hm h5.1 h5.2) (LG A B I J n M f r O E m g w ok (WY A B I J n M f r O E ok) h4 hm h5.1 h5.2))
    ·have e:bdE A B I J n M f r O E m g w=2:=by
      unfold bdE;rw [h,h4]
      by_cases q:0≤w
      ·rw [(aV 0 w).mpr q,show az w 99=false by
        cases q2:az w 99 with
        | false=>rfl
        | true=>rw [aV] at q2;exact absurd ⟨q,q2⟩ h5];rfl
      ·rw [show az 0 w=false by
        cases q2:az 0 w with
        | false=>rfl
        | true=>rw [aV] at q2;exact absurd q2 q];rfl
     obtain ⟨e1,e2⟩:=hz 2 e (by decide)
     rw [e,e1,e2]
     exact aY ax Dt rfl (das:=[.st [.sl 1 A B,.sl 1 I J,.rr 1 n M f,.i .i64 r,.sl 5 O E],.one (.sl 1 m g),.one (.i .i64 w)]) (bd3 A B I J n M f r O E m g w hb h c1 c2 c3 hm h4 h5)
  ·have e:bdE A B I J n M f r O E m g w=iH A B I J n M f r O E:=by unfold bdE;rw [(eF _ _).mpr h];rfl
   obtain ⟨e1,e2⟩:=hz _ e h
   rw [e,e1,e2]
   exact aY ax Dt rfl (das:=[.st [.sl 1 A B,.sl 1 I J,.rr 1 n M f,.i .i64 r,.sl 5 O E],.one (.sl 1 m g),.one (.i .i64 w)]) (bd1 A B I J n M f r O E m g w hb hn hm h)
 ·cases hv
end
end BL
end Go.Proofs.YtiplgejpopellaaGreat
