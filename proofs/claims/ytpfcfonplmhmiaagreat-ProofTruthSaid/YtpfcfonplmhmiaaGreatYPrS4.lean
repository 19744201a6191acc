/- Casks: Blend, as a contract. -/
import Derived.Test.YtpfcfonplmhmiaaGreatYPrS3
set_option linter.all false
set_option linter.unusedSimpArgs false
set_option linter.unusedVariables false
namespace Go.Proofs.YtpfcfonplmhmiaaGreat
namespace BL
open Go Go.Ev
set_option maxRecDepth 1000000
set_option maxHeartbeats 0
noncomputable section
variable (A:Nat) (B:Nat→Nat→Int) (I:Nat) (J:Nat→Nat→Int) (n:Nat) (M:Nat→Nat) (f:Nat→Nat→Nat→Int)
def XBd:Ext:=jy [(34,cf GZ),(37,cfS NH),(41,cf U0),(44,cf Un)] false
theorem DK:dE Tryz.prog XBd:=dG (ay (dA U6)<|ay (kP Xm)<|ay (dA Z9)<|ay (dA aaG) bn)
theorem bd1 (r:Int) (O:Nat) (E:Nat→Nat→Int) (m:Nat) (g:Nat→Nat→Int) (w:Int) (s:iI A I n M=true) (kn:O≤1000) (km:m≤1000) (h:¬ dO A B I J n M f r O E=0):VC (bZ Tryz.prog XBd 300 13 (enc [.st [.sl 1 A B,.sl 1 I J,.rr 1 n M f,.i .i64 r,.sl 5 O E],.one (.sl 1 m g),.one (.i .i64 w)] 0) 5 (fun v=>bJ v (.tup [.agg 2 (T.setL .lf 0 [.int .i64 0,.int .i64 0]),.int .i64 (dO A B I J n M f r O E)]))) (.go 21 .nil):=ai (((cond (cond (cond (aJ .i64 (ae .i64 B) A 1) (cond (aJ .i64 (ae .i64 J) I 1) (cond (cond true (eX 2 (aU 2 1 M f) n 1) false) (cond (aJ .i64 (ae .i64 E) O 5) true false) false) false) false) true false) (cond (iI A I n M) (Nat.ble O 1000) false) false)=true∧((not (aP (dO A B I J n M f r O E) 0))=true∧(((((0):Int)=0)∧((((0):Int)=0)∧True))∧((((dO A B I J n M f r O E):Int)=(dO A B I J n M f r O E))∧True)))))
theorem bd2 (r:Int) (O:Nat) (E:Nat→Nat→Int) (m:Nat) (g:Nat→Nat→Int) (w:Int) (s:iI A I n M=true) (h:dO A B I J n M f r O E=0) (h1:aK A B I J n M f=0) (h2:O≤6) (h3:gI A B I J E O=true) (km:m≤1000) (h4:hbB O g m=false):VC (bZ Tryz.prog XBd 300 13 (enc [.st [.sl 1 A B,.sl 1 I J,.rr 1 n M f,.i .i64 r,.sl 5 O E],.one (.sl 1 m g),.one (.i .i64 w)] 0) 5 (fun v=>bJ v (.tup [.agg 2 (T.setL .lf 0 [.int .i64 0,.int .i64 0]),.int .i64 2]))) (.go 345 .nil):=ai (((cond (cond (cond (aJ .i64 (ae .i64 B) A 1) (cond (aJ .i64 (ae .i64 J) I 1) (cond (cond true (eX 2 (aU 2 1 M f) n 1) false) (cond (aJ .i64 (ae .i64 E) O 5) true false) false) false) false) true false) (cond (iI A I n M) (Nat.ble O 1000) false) false)=true∧((not (aP (dO A B I J n M f r O E) 0))=false∧((cond (cond (cond (aJ .i64 (ae .i64 B) A 1) (cond (aJ .i64 (ae .i64 J) I 1) (cond (cond true (eX 2 (aU 2 1 M f) n 1) false) (cond (aJ .i64 (ae .i64 E) O 5) true false) false) false) false) (cond (aJ .i64 (ae .i64 g) m 1) true false) false) (cond (Nat.ble O 1000000) (Nat.ble m 1000000) false) false)=true∧((not (BL.hbB O g m))=true∧(((((0):Int)=0)∧((((0):Int)=0)∧True))∧((((2):Int)=2)∧True)))))))
theorem bd3 (r:Int) (O:Nat) (E:Nat→Nat→Int) (m:Nat) (g:Nat→Nat→Int) (w:Int) (s:iI A I n M=true) (h:dO A B I J n M f r O E=0) (h1:aK A B I J n M f=0) (h2:O≤6) (h3:gI A B I J E O=true) (km:m≤1000) (h4:hbB O g m=true) (h5:¬ (0≤w∧w≤99)):VC (bZ Tryz.prog XBd 300 13 (enc [.st [.sl 1 A B,.sl 1 I J,.rr 1 n M f,.i .i64 r,.sl 5 O E],.one (.sl 1 m g),.one (.i .i64 w)] 0) 5 (fun v=>bJ v (.tup [.agg 2 (T.setL .lf 0 [.int .i64 0,.int .i64 0]),.int .i64 2]))) (.go 4249 (.sp (.go 20480 .nil) .nil)):=ai (((cond (cond (cond (aJ .i64 (ae .i64 B) A 1) (cond (aJ .i64 (ae .i64 J) I 1) (cond (cond true (eX 2 (aU 2 1 M f) n 1) false) (cond (aJ .i64 (ae .i64 E) O 5) true false) false) false) false) true false) (cond (iI A I n M) (Nat.ble O 1000) false) false)=true∧((not (aP (dO A B I J n M f r O E) 0))=false∧((cond (cond (cond (aJ .i64 (ae .i64 B) A 1) (cond (aJ .i64 (ae .i64 J) I 1) (cond (cond true (eX 2 (aU 2 1 M f) n 1) false) (cond (aJ .i64 (ae .i64 E) O 5) true false) false) false) false) (cond (aJ .i64 (ae .i64 g) m 1) true false) false) (cond (Nat.ble O 1000000) (Nat.ble m 1000000) false) false)=true∧((not (BL.hbB O g m))=false∧(((ak 0 w)=true→((not (ak w 99))=true∧(((((0):Int)=0)∧((((0):Int)=0)∧True))∧((((2):Int)=2)∧True)))) ∧
 ((ak (0) w)=false→(((((0):Int)=(0))∧((((0):Int)=(0))∧True))∧((((2):Int)=(2))∧True)))))))))
theorem bd4 (r:Int) (O:Nat) (E:Nat→Nat→Int) (m:Nat) (g:Nat→Nat→Int) (w:Int) (s:iI A I n M=true) (h:dO A B I J n M f r O E=0) (h1:aK A B I J n M f=0) (h2:O≤6) (h3:gI A B I J E O=true) (km:m≤1000) (h4:hbB O g m=true) (h5:0≤w) (h6:w≤99) (b1:blB O E m g w (bQ A B I J f O E 0) (bQ A B I J f O E 1) (bQ A B I J f O E 2) (bQ A B I J f O E 3) (bQ A B I J f O E 4) (bQ A B I J f O E 5)=true) (b2:blB O E m g w (bM A B I J f O E 0) (bM A B I J f O E 1) (bM A B I J f O E 2) (bM A B I J f O E 3) (bM A B I J f O E 4) (bM A B I J f O E 5)=true):VC (bZ Tryz.prog XBd 300 13 (enc [.st [.sl 1 A B,.sl 1 I J,.rr 1 n M f,.i .i64 r,.sl 5 O E],.one (.sl 1 m g),.one (.i .i64 w)] 0) 5 (fun v=>bJ v (.tup [.agg 2 (T.setL .lf 0 [.int .i64 (blV E g w (bQ A B I J f O E 0) (bQ A B I J f O E 1) (bQ A B I J f O E 2) (bQ A B I J f O E 3) (bQ A B I J f O E 4) (bQ A B I J f O E 5) m),.int .i64 (blV E g w (bM A B I J f O E 0) (bM A B I J f O E 1) (bM A B I J f O E 2) (bM A B I J f O E 3) (bM A B I J f O E 4) (bM A B I J f O E 5) m)]),.int .i64 0]))) (.go 5771366553 .nil):=ai (((cond (cond (cond (aJ .i64 (ae .i64 B) A 1) (cond (aJ .i64 (ae .i64 J) I 1) (cond (cond true (eX 2 (aU 2 1 M f) n 1) false) (cond (aJ .i64 (ae .i64 E) O 5) true false) false) false) false) true false) (cond (iI A I n M) (Nat.ble O 1000) false) false)=true∧((not (aP (dO A B I J n M f r O E) 0))=false∧((cond (cond (cond (aJ .i64 (ae .i64 B) A 1) (cond (aJ .i64 (ae .i64 J) I 1) (cond (cond true (eX 2 (aU 2 1 M f) n 1) false) (cond (aJ .i64 (ae .i64 E) O 5) true false) false) false) false) (cond (aJ .i64 (ae .i64 g) m 1) true false) false) (cond (Nat.ble O 1000000) (Nat.ble m 1000000) false) false)=true∧((not (BL.hbB O g m))=false∧((ak 0 w)=true∧((not (ak w 99))=false∧((cond (cond (cond (aJ .i64 (ae .i64 B) A 1) (cond (aJ .i64 (ae .i64 J) I 1) (cond (cond true (eX 2 (aU 2 1 M f) n 1) false) (cond (aJ .i64 (ae .i64 E) O 5) true false) false) false) false) true false) (cond (aP (aK A B I J n M f) 0) (cond (Nat.ble O 6) (gI A B I J E O) false) false) false)=true∧((cond (cond (cond (aJ .i64 (ae .i64 B) A 1) (cond (aJ .i64 (ae .i64 J) I 1) (cond (cond true (eX 2 (aU 2 1 M f) n 1) false) (cond (aJ .i64 (ae .i64 E) O 5) true false) false) false) false) (cond (aJ .i64 (ae .i64 g) m 1) true false) false) (cond (BL.blB O E m g w (bQ A B I J f O E 0) (bQ A B I J f O E 1) (bQ A B I J f O E 2) (bQ A B I J f O E 3) (bQ A B I J f O E 4) (bQ A B I J f O E 5)) (BL.blB O E m g w (bM A B I J f O E 0) (bM A B I J f O E 1) (bM A B I J f O E 2) (bM A B I J f O E 3) (bM A B I J f O E 4) (bM A B I J f O E 5)) false) false)=true∧(((((BL.blV E g w (bQ A B I J f O E 0) (bQ A B I J f O E 1) (bQ A B I J f O E 2) (bQ A B I J f O E 3) (bQ A B I J f O E 4) (bQ A B I J f O E 5) m):Int)=(BL.blV E g w (bQ A B I J f O E 0) (bQ A B I J f O E 1) (bQ A B I J f O E 2) (bQ A B I J f O E 3) (bQ A B I J f O E 4) (bQ A B I J f O E 5) m))∧((((BL.blV E g w (bM A B I J f O E 0) (bM A B I J f O E 1) (bM A B I J f O E 2) (bM A B I J f O E 3) (bM A B I J f O E 4) (bM A B I J f O E 5) m):Int)=(BL.blV E g w (bM A B I J f O E 0) (bM A B I J f O E 1) (bM A B I J f O E 2) (bM A B I J f O E 3) (bM A B I J f O E 4) (bM A B I J f O E 5) m))∧True))∧((((0):Int)=0)∧True)))))))))))
def bdE (A:Nat) (B:Nat→Nat→Int) (I:Nat) (J:Nat→Nat→Int) (n:Nat) (M:Nat→Nat) (f:Nat→Nat→Nat→Int) (r:Int) (O:Nat) (E:Nat→Nat→Int) (m:Nat) (g:Nat→Nat→Int) (w:Int):Int:=cond (aP (dO A B I J n M f r O E) 0) (cond (hbB O g m) (cond (ak 0 w) (cond (ak w 99) 0 2) 2) 2) (dO A B I J n M f r O E)
def bdL (A:Nat) (B:Nat→Nat→Int) (I:Nat) (J:Nat→Nat→Int) (n:Nat) (M:Nat→Nat) (f:Nat→Nat→Nat→Int) (r:Int) (O:Nat) (E:Nat→Nat→Int) (m:Nat) (g:Nat→Nat→Int) (w:Int):Int:=cond (aP (bdE A B I J n M f r O E m g w) 0) (blV E g w (bQ A B I J f O E 0) (bQ A B I J f O E 1) (bQ A B I J f O E 2) (bQ A B I J f O E 3) (bQ A B I J f O E 4) (bQ A B I J f O E 5) m) 0
def bdH (A:Nat) (B:Nat→Nat→Int) (I:Nat) (J:Nat→Nat→Int) (n:Nat) (M:Nat→Nat) (f:Nat→Nat→Nat→Int) (r:Int) (O:Nat) (E:Nat→Nat→Int) (m:Nat) (g:Nat→Nat→Int) (w:Int):Int:=cond (aP (bdE A B I J n M f r O E m g w) 0) (blV E g w (bM A B I J f O E 0) (bM A B I J f O E 1) (bM A B I J f O E 2) (bM A B I J f O E 3) (bM A B I J f O E 4) (bM A B I J f O E 5) m) 0
theorem Yf {O:Nat} {E:Nat→Nat→Int} {k:Nat} {g:Nat→Nat→Int} {w:Int} (hw:0≤w) (h:∀ i,i<k→1≤E (Int.toNat (g i 0)) 0):∀ i,i≤k→(i:Int)≤gsm E g w i:=by
 intro i
 induction i with
 | zero=>intro _;exact hw
 | succ i ih =>
  intro hi
  have:=ih (by omega)
  have e:=h i (by omega)
  rw [Cb];omega
theorem Xf (A:Nat) (B:Nat→Nat→Int) (I:Nat) (J:Nat→Nat→Int) (n:Nat) (M:Nat→Nat) (f:Nat→Nat→Nat→Int) (r:Int) (O:Nat) (E:Nat→Nat→Int) (m:Nat) (g:Nat→Nat→Int) (w:Int) {t0 t1 t2 t3 t4 t5:Int} (ok:StOk A B I J n M f r O E) (ht:ry O E t0 t1 t2 t3 t4 t5=true) (hb:hbB O g m=true) (km:m≤1000) (h5:0≤w) (h6:w≤99):blB O E m g w t0 t1 t2 t3 t4 t5=true:=by
 obtain ⟨p1,p2⟩:=ah hb
 obtain ⟨p2,_⟩:=ah p2
 have p1:0<m:=by
  cases m with
  | zero=>cases p1
  | succ j=>omega
 have hg:∀ i,i<m→1≤E (Int.toNat (g i 0)) 0:=fun i hi=>by
  have q:=aZ p2 i hi
  unfold inH at q
  rw [jd] at q
  exact (ok.cask (Int.toNat (g i 0)) (by omega)).1.1
 have hs:=Yf (O:=O) h5 hg m (Nat.le_refl m)
 exact aV ht (aV (dU km) (aV (by rw [aY];exact h5) (aV (by rw [aY];omega) (aV p2 (by rw [aY];omega)))))
def UV:Val:=fun das=>match das with | [.st [.sl 1 A B,.sl 1 I J,.rr 1 n M f,.i .i64 r,.sl 5 O E],.one (.sl 1 m g),.one (.i .i64 w)]=>some (cond (iI A I n M) (cond (Nat.ble O 1000) (Nat.ble m 1000) false) false,.tup [.agg 2 (T.setL .lf 0 [.int .i64 (bdL A B I J n M f r O E m g w),.int .i64 (bdH A B I J n M f r O E m g w)]),.int .i64 (bdE A B I J n M f r O E m g w)]) | _=>none
theorem aav:oI Tryz.prog 13 UV:=by
 intro das v hv
 unfold UV at hv
 split at hv
 ·rename_i A B I J n M f r O E m g w
  have hb:=congrArg Prod.fst (Option.some.inj hv)
  have hv:=congrArg Prod.snd (Option.some.inj hv)
  subst hv
  obtain ⟨hb,hn⟩:=ah hb
  obtain ⟨hn,hm⟩:=ah hn
  have hn:=Nat.le_of_ble_eq_true hn
  have hm:=Nat.le_of_ble_eq_true hm
  have hz:∀ e:Int,bdE A B I J n M f r O E m g w=e→e≠0→bdL A B I J n M f r O E m g w=0∧bdH A B I J n M f r O E m g w=0:=fun e q qn=>by
   unfold bdL bdH
   rw [q,(gZ _ _).mpr qn];exact ⟨rfl,rfl⟩
  by_cases h:dO A B I J n M f r O E=0
  ·obtain ⟨c1,c2,c3⟩:=nG A B I J n M f r O E h
   have ok:=qC A B I J n M f r O E h
   cases h4:hbB O g m with
   | false =>
    have e:bdE A B I J n M f r O E m g w=2:=by unfold bdE;rw [h,h4];rfl
    obtain ⟨e1,e2⟩:=hz 2 e (by decide)
    rw [e,e1,e2]
    exact aT aj DK rfl (das:=[.st [.sl 1 A B,.sl 1 I J,.rr 1 n M f,.i .i64 r,.sl 5 O E],.one (.sl 1 m g),.one (.i .i64 w)]) (bd2 A B I J n M f r O E m g w hb h c1 c2 c3 hm h4)
   | true =>
    by_cases h5:0≤w∧w≤99
    ·have e:bdE A B I J n M f r O E m g w=0:=by unfold bdE;rw [h,h4,(aY 0 w).mpr h5.1,(aY w 99).mpr h5.2];rfl
     have e1:bdL A B I J n M f r O E m g w=(blV E g w (bQ A B I J f O E 0) (bQ A B I J f O E 1) (bQ A B I J f O E 2) (bQ A B I J f O E 3) (bQ A B I J f O E 4) (bQ A B I J f O E 5) m):=by unfold bdL;rw [e];rfl
     have e2:bdH A B I J n M f r O E m g w=(blV E g w (bM A B I J f O E 0) (bM A B I J f O E 1) (bM A B I J f O E 2) (bM A B I J f O E 3) (bM A B I J f O E 4) (bM A B I J f O E 5) m):=by unfold bdH;rw [e];rfl
     rw [e,e1,e2]
     exact aT aj DK rfl (das:=[.st [.sl 1 A B,.sl 1 I J,.rr 1 n M f,.i .i64 r,.sl 5 O E],.one (.sl 1 m g),.one (.i .i64 w)]) (bd4 A B I J n M f r O E m g w hb h c1 c2 c3 hm h4 h5.1 h5.2 (Xf A B I J n M f r O E m g w ok (Xz A B I J n M f r O E ok) h4 hm h5.1 h5.2) (Xf A B I J n M f r O E m g w ok (XH A B I J n M f r O E ok) h4 hm h5.1 h5.2))
    ·have e:bdE A B I J n M f r O E m g w=2:=by
      unfold bdE;rw [h,h4]
      by_cases q:0≤w
      ·rw [(aY 0 w).mpr q,show ak w 99=false by
        cases q2:ak w 99 with
        | false=>rfl
        | true=>rw [aY] at q2;exact absurd ⟨q,q2⟩ h5];rfl
      ·rw [show ak 0 w=false by
        cases q2:ak 0 w with
        | false=>rfl
        | true=>rw [aY] at q2;exact absurd q2 q];rfl
     obtain ⟨e1,e2⟩:=hz 2 e (by decide)
     rw [e,e1,e2]
     exact aT aj DK rfl (das:=[.st [.sl 1 A B,.sl 1 I J,.rr 1 n M f,.i .i64 r,.sl 5 O E],.one (.sl 1 m g),.one (.i .i64 w)]) (bd3 A B I J n M f r O E m g w hb h c1 c2 c3 hm h4 h5)
  ·have e:bdE A B I J n M f r O E m g w=dO A B I J n M f r O E:=by unfold bdE;rw [(gZ _ _).mpr h];rfl
   obtain ⟨e1,e2⟩:=hz _ e h
   rw [e,e1,e2]
   exact aT aj DK rfl (das:=[.st [.sl 1 A B,.sl 1 I J,.rr 1 n M f,.i .i64 r,.sl 5 O E],.one (.sl 1 m g),.one (.i .i64 w)]) (bd1 A B I J n M f r O E m g w hb hn hm h)
 ·cases hv
end
end BL
end Go.Proofs.YtpfcfonplmhmiaaGreat
