/- Casks: Blend, as a contract. -/
import Derived.Test.YtiplgejpopellaaGreatYPrS3
set_option linter.all false
set_option linter.unusedSimpArgs false
set_option linter.unusedVariables false
namespace Go.Proofs.YtiplgejpopellaaGreat
namespace BL
open Go Go.Ev
set_option maxRecDepth 1000000
set_option maxHeartbeats 0
noncomputable section
variable (A:Nat) (B:Nat→Nat→Int) (I:Nat) (J:Nat→Nat→Int) (n:Nat) (M:Nat→Nat) (f:Nat→Nat→Nat→Int)
def XBd:Ext:=ku [(30,cf Gw),(32,cfS KA),(41,cf RH),(44,cf Q7)] false
theorem EF:dE Tryz.prog XBd:=dH (aA (dw RU)<|aA (lI WM)<|aA (dw Zm)<|aA (dw Za) bJ)
theorem bd1 (r:Int) (O:Nat) (E:Nat→Nat→Int) (m:Nat) (g:Nat→Nat→Int) (w:Int) (s:nT A I n M=true) (kn:O≤1000) (km:m≤1000) (h:¬ fM A B I J n M f r O E=0):VC (bK Tryz.prog XBd 300 18 (enc [.st [.sl 1 A B,.sl 1 I J,.rr 1 n M f,.i .i64 r,.sl 5 O E],.one (.sl 1 m g),.one (.i .i64 w)] 0) 5 (fun v=>bW v (.tup [.agg 2 (T.setL .lf 0 [.int .i64 0,.int .i64 0]),.int .i64 (fM A B I J n M f r O E)]))) (.go 21 .nil):=ai (((cond (cond (cond (aV .i64 (ae .i64 B) A 1) (cond (aV .i64 (ae .i64 J) I 1) (cond (cond true (je 2 (aC 2 1 M f) n 1) false) (cond (aV .i64 (ae .i64 E) O 5) true false) false) false) false) true false) (cond (nT A I n M) (Nat.ble O 1000) false) false)=true∧((not (aY (fM A B I J n M f r O E) 0))=true∧(((((0):Int)=0)∧((((0):Int)=0)∧True))∧((((fM A B I J n M f r O E):Int)=(fM A B I J n M f r O E))∧True)))))
theorem bd2 (r:Int) (O:Nat) (E:Nat→Nat→Int) (m:Nat) (g:Nat→Nat→Int) (w:Int) (s:nT A I n M=true) (h:fM A B I J n M f r O E=0) (h1:aX A B I J n M f=0) (h2:O≤6) (h3:mf A B I J E O=true) (km:m≤1000) (h4:hbB O g m=false):VC (bK Tryz.prog XBd 300 18 (enc [.st [.sl 1 A B,.sl 1 I J,.rr 1 n M f,.i .i64 r,.sl 5 O E],.one (.sl 1 m g),.one (.i .i64 w)] 0) 5 (fun v=>bW v (.tup [.agg 2 (T.setL .lf 0 [.int .i64 0,.int .i64 0]),.int .i64 2]))) (.go 345 .nil):=ai (((cond (cond (cond (aV .i64 (ae .i64 B) A 1) (cond (aV .i64 (ae .i64 J) I 1) (cond (cond true (je 2 (aC 2 1 M f) n 1) false) (cond (aV .i64 (ae .i64 E) O 5) true false) false) false) false) true false) (cond (nT A I n M) (Nat.ble O 1000) false) false)=true∧((not (aY (fM A B I J n M f r O E) 0))=false∧((cond (cond (cond (aV .i64 (ae .i64 B) A 1) (cond (aV .i64 (ae .i64 J) I 1) (cond (cond true (je 2 (aC 2 1 M f) n 1) false) (cond (aV .i64 (ae .i64 E) O 5) true false) false) false) false) (cond (aV .i64 (ae .i64 g) m 1) true false) false) (cond (Nat.ble O 1000000) (Nat.ble m 1000000) false) false)=true∧((not (BL.hbB O g m))=true∧(((((0):Int)=0)∧((((0):Int)=0)∧True))∧((((2):Int)=2)∧True)))))))
theorem bd3 (r:Int) (O:Nat) (E:Nat→Nat→Int) (m:Nat) (g:Nat→Nat→Int) (w:Int) (s:nT A I n M=true) (h:fM A B I J n M f r O E=0) (h1:aX A B I J n M f=0) (h2:O≤6) (h3:mf A B I J E O=true) (km:m≤1000) (h4:hbB O g m=true) (h5:¬ (0≤w∧w≤99)):VC (bK Tryz.prog XBd 300 18 (enc [.st [.sl 1 A B,.sl 1 I J,.rr 1 n M f,.i .i64 r,.sl 5 O E],.one (.sl 1 m g),.one (.i .i64 w)] 0) 5 (fun v=>bW v (.tup [.agg 2 (T.setL .lf 0 [.int .i64 0,.int .i64 0]),.int .i64 2]))) (.go 4249 (.sp (.go 20480 .nil) .nil)):=ai (((cond (cond (cond (aV .i64 (ae .i64 B) A 1) (cond (aV .i64 (ae .i64 J) I 1) (cond (cond true (je 2 (aC 2 1 M f) n 1) false) (cond (aV .i64 (ae .i64 E) O 5) true false) false) false) false) true false) (cond (nT A I n M) (Nat.ble O 1000) false) false)=true∧((not (aY (fM A B I J n M f r O E) 0))=false∧((cond (cond (cond (aV .i64 (ae .i64 B) A 1) (cond (aV .i64 (ae .i64 J) I 1) (cond (cond true (je 2 (aC 2 1 M f) n 1) false) (cond (aV .i64 (ae .i64 E) O 5) true false) false) false) false) (cond (aV .i64 (ae .i64 g) m 1) true false) false) (cond (Nat.ble O 1000000) (Nat.ble m 1000000) false) false)=true∧((not (BL.hbB O g m))=false∧(((ax 0 w)=true→((not (ax w 99))=true∧(((((0):Int)=0)∧((((0):Int)=0)∧True))∧((((2):Int)=2)∧True)))) ∧
 ((ax (0) w)=false→(((((0):Int)=(0))∧((((0):Int)=(0))∧True))∧((((2):Int)=(2))∧True)))))))))
theorem bd4 (r:Int) (O:Nat) (E:Nat→Nat→Int) (m:Nat) (g:Nat→Nat→Int) (w:Int) (s:nT A I n M=true) (h:fM A B I J n M f r O E=0) (h1:aX A B I J n M f=0) (h2:O≤6) (h3:mf A B I J E O=true) (km:m≤1000) (h4:hbB O g m=true) (h5:0≤w) (h6:w≤99) (b1:blB O E m g w (iC A B I J f O E 0) (iC A B I J f O E 1) (iC A B I J f O E 2) (iC A B I J f O E 3) (iC A B I J f O E 4) (iC A B I J f O E 5)=true) (b2:blB O E m g w (iy A B I J f O E 0) (iy A B I J f O E 1) (iy A B I J f O E 2) (iy A B I J f O E 3) (iy A B I J f O E 4) (iy A B I J f O E 5)=true):VC (bK Tryz.prog XBd 300 18 (enc [.st [.sl 1 A B,.sl 1 I J,.rr 1 n M f,.i .i64 r,.sl 5 O E],.one (.sl 1 m g),.one (.i .i64 w)] 0) 5 (fun v=>bW v (.tup [.agg 2 (T.setL .lf 0 [.int .i64 (blV E g w (iC A B I J f O E 0) (iC A B I J f O E 1) (iC A B I J f O E 2) (iC A B I J f O E 3) (iC A B I J f O E 4) (iC A B I J f O E 5) m),.int .i64 (blV E g w (iy A B I J f O E 0) (iy A B I J f O E 1) (iy A B I J f O E 2) (iy A B I J f O E 3) (iy A B I J f O E 4) (iy A B I J f O E 5) m)]),.int .i64 0]))) (.go 5771366553 .nil):=ai (((cond (cond (cond (aV .i64 (ae .i64 B) A 1) (cond (aV .i64 (ae .i64 J) I 1) (cond (cond true (je 2 (aC 2 1 M f) n 1) false) (cond (aV .i64 (ae .i64 E) O 5) true false) false) false) false) true false) (cond (nT A I n M) (Nat.ble O 1000) false) false)=true∧((not (aY (fM A B I J n M f r O E) 0))=false∧((cond (cond (cond (aV .i64 (ae .i64 B) A 1) (cond (aV .i64 (ae .i64 J) I 1) (cond (cond true (je 2 (aC 2 1 M f) n 1) false) (cond (aV .i64 (ae .i64 E) O 5) true false) false) false) false) (cond (aV .i64 (ae .i64 g) m 1) true false) false) (cond (Nat.ble O 1000000) (Nat.ble m 1000000) false) false)=true∧((not (BL.hbB O g m))=false∧((ax 0 w)=true∧((not (ax w 99))=false∧((cond (cond (cond (aV .i64 (ae .i64 B) A 1) (cond (aV .i64 (ae .i64 J) I 1) (cond (cond true (je 2 (aC 2 1 M f) n 1) false) (cond (aV .i64 (ae .i64 E) O 5) true false) false) false) false) true false) (cond (aY (aX A B I J n M f) 0) (cond (Nat.ble O 6) (mf A B I J E O) false) false) false)=true∧((cond (cond (cond (aV .i64 (ae .i64 B) A 1) (cond (aV .i64 (ae .i64 J) I 1) (cond (cond true (je 2 (aC 2 1 M f) n 1) false) (cond (aV .i64 (ae .i64 E) O 5) true false) false) false) false) (cond (aV .i64 (ae .i64 g) m 1) true false) false) (cond (BL.blB O E m g w (iC A B I J f O E 0) (iC A B I J f O E 1) (iC A B I J f O E 2) (iC A B I J f O E 3) (iC A B I J f O E 4) (iC A B I J f O E 5)) (BL.blB O E m g w (iy A B I J f O E 0) (iy A B I J f O E 1) (iy A B I J f O E 2) (iy A B I J f O E 3) (iy A B I J f O E 4) (iy A B I J f O E 5)) false) false)=true∧(((((BL.blV E g w (iC A B I J f O E 0) (iC A B I J f O E 1) (iC A B I J f O E 2) (iC A B I J f O E 3) (iC A B I J f O E 4) (iC A B I J f O E 5) m):Int)=(BL.blV E g w (iC A B I J f O E 0) (iC A B I J f O E 1) (iC A B I J f O E 2) (iC A B I J f O E 3) (iC A B I J f O E 4) (iC A B I J f O E 5) m))∧((((BL.blV E g w (iy A B I J f O E 0) (iy A B I J f O E 1) (iy A B I J f O E 2) (iy A B I J f O E 3) (iy A B I J f O E 4) (iy A B I J f O E 5) m):Int)=(BL.blV E g w (iy A B I J f O E 0) (iy A B I J f O E 1) (iy A B I J f O E 2) (iy A B I J f O E 3) (iy A B I J f O E 4) (iy A B I J f O E 5) m))∧True))∧((((0):Int)=0)∧True)))))))))))
def bdE (A:Nat) (B:Nat→Nat→Int) (I:Nat) (J:Nat→Nat→Int) (n:Nat) (M:Nat→Nat) (f:Nat→Nat→Nat→Int) (r:Int) (O:Nat) (E:Nat→Nat→Int) (m:Nat) (g:Nat→Nat→Int) (w:Int):Int:=cond (aY (fM A B I J n M f r O E) 0) (cond (hbB O g m) (cond (ax 0 w) (cond (ax w 99) 0 2) 2) 2) (fM A B I J n M f r O E)
def bdL (A:Nat) (B:Nat→Nat→Int) (I:Nat) (J:Nat→Nat→Int) (n:Nat) (M:Nat→Nat) (f:Nat→Nat→Nat→Int) (r:Int) (O:Nat) (E:Nat→Nat→Int) (m:Nat) (g:Nat→Nat→Int) (w:Int):Int:=cond (aY (bdE A B I J n M f r O E m g w) 0) (blV E g w (iC A B I J f O E 0) (iC A B I J f O E 1) (iC A B I J f O E 2) (iC A B I J f O E 3) (iC A B I J f O E 4) (iC A B I J f O E 5) m) 0
def bdH (A:Nat) (B:Nat→Nat→Int) (I:Nat) (J:Nat→Nat→Int) (n:Nat) (M:Nat→Nat) (f:Nat→Nat→Nat→Int) (r:Int) (O:Nat) (E:Nat→Nat→Int) (m:Nat) (g:Nat→Nat→Int) (w:Int):Int:=cond (aY (bdE A B I J n M f r O E m g w) 0) (blV E g w (iy A B I J f O E 0) (iy A B I J f O E 1) (iy A B I J f O E 2) (iy A B I J f O E 3) (iy A B I J f O E 4) (iy A B I J f O E 5) m) 0
theorem YA {O:Nat} {E:Nat→Nat→Int} {k:Nat} {g:Nat→Nat→Int} {w:Int} (hw:0≤w) (h:∀ i,i<k→1≤E (Int.toNat (g i 0)) 0):∀ i,i≤k→(i:Int)≤gsm E g w i:=by
 intro i
 induction i with
 | zero=>intro _;exact hw
 | succ i ih =>
  intro hi
  have:=ih (by omega)
  have e:=h i (by omega)
  rw [BO];omega
theorem Xg (A:Nat) (B:Nat→Nat→Int) (I:Nat) (J:Nat→Nat→Int) (n:Nat) (M:Nat→Nat) (f:Nat→Nat→Nat→Int) (r:Int) (O:Nat) (E:Nat→Nat→Int) (m:Nat) (g:Nat→Nat→Int) (w:Int) {t0 t1 t2 t3 t4 t5:Int} (ok:StOk A B I J n M f r O E) (ht:yl O E t0 t1 t2 t3 t4 t5=true) (hb:hbB O g m=true) (km:m≤1000) (h5:0≤w) (h6:w≤99):blB O E m g w t0 t1 t2 t3 t4 t5=true:=by
 obtain ⟨p1,p2⟩:=ah hb
 obtain ⟨p2,_⟩:=ah p2
 have p1:0<m:=by
  cases m with
  | zero=>cases p1
  | succ j=>omega
 have hg:∀ i,i<m→1≤E (Int.toNat (g i 0)) 0:=fun i hi=>by
  have q:=aW p2 i hi
  unfold inH at q
  rw [iZ] at q
  exact (ok.cask (Int.toNat (g i 0)) (by omega)).1.1
 have hs:=YA (O:=O) h5 hg m (Nat.le_refl m)
 exact aN ht (aN (dL km) (aN (by rw [aU];exact h5) (aN (by rw [aU];omega) (aN p2 (by rw [aU];omega)))))
def QN:Val:=fun das=>match das with | [.st [.sl 1 A B,.sl 1 I J,.rr 1 n M f,.i .i64 r,.sl 5 O E],.one (.sl 1 m g),.one (.i .i64 w)]=>some (cond (nT A I n M) (cond (Nat.ble O 1000) (Nat.ble m 1000) false) false,.tup [.agg 2 (T.setL .lf 0 [.int .i64 (bdL A B I J n M f r O E m g w),.int .i64 (bdH A B I J n M f r O E m g w)]),.int .i64 (bdE A B I J n M f r O E m g w)]) | _=>none
theorem ZF:qi Tryz.prog 18 QN:=by
 intro das v hv
 unfold QN at hv
 split at hv
 ·rename_i A B I J n M f r O E m g w
  have hb:=congrArg Prod.fst (Option.some.inj hv)
  have hv:=congrArg Prod.snd (Option.some.inj hv)
  subst hv
  obtain ⟨hb,hn⟩:=ah hb
  obtain ⟨hn,hm⟩:=ah hn
  have hn:=Nat.le_of_ble_eq_true hn
  have hm:=Nat.le_of_ble_eq_true hm
  have hz:∀ e:Int,bdE A B I J n M f r O E m g w=e→e≠0→bdL A B I J n M f r O E m g w=0∧bdH A B I J n M f r O E m g w=0:=fun e q qn=>by
   unfold bdL bdH
   rw [q,(ji _ _).mpr qn];exact ⟨rfl,rfl⟩
  by_cases h:fM A B I J n M f r O E=0
  ·obtain ⟨c1,c2,c3⟩:=CY A B I J n M f r O E h
   have ok:=xN A B I J n M f r O E h
   cases h4:hbB O g m with
   | false =>
    have e:bdE A B I J n M f r O E m g w=2:=by unfold bdE;rw [h,h4];rfl
    obtain ⟨e1,e2⟩:=hz 2 e (by decide)
    rw [e,e1,e2]
    exact aK aj EF rfl (das:=[.st [.sl 1 A B,.sl 1 I J,.rr 1 n M f,.i .i64 r,.sl 5 O E],.one (.sl 1 m g),.one (.i .i64 w)]) (bd2 A B I J n M f r O E m g w hb h c1 c2 c3 hm h4)
   | true =>
    by_cases h5:0≤w∧w≤99
    ·have e:bdE A B I J n M f r O E m g w=0:=by unfold bdE;rw [h,h4,(aU 0 w).mpr h5.1,(aU w 99).mpr h5.2];rfl
     have e1:bdL A B I J n M f r O E m g w=(blV E g w (iC A B I J f O E 0) (iC A B I J f O E 1) (iC A B I J f O E 2) (iC A B I J f O E 3) (iC A B I J f O E 4) (iC A B I J f O E 5) m):=by unfold bdL;rw [e];rfl
     have e2:bdH A B I J n M f r O E m g w=(blV E g w (iy A B I J f O E 0) (iy A B I J f O E 1) (iy A B I J f O E 2) (iy A B I J f O E 3) (iy A B I J f O E 4) (iy A B I J f O E 5) m):=by unfold bdH;rw [e];rfl
     rw [e,e1,e2]
     exact aK aj EF rfl (das:=[.st [.sl 1 A B,.sl 1 I J,.rr 1 n M f,.i .i64 r,.sl 5 O E],.one (.sl 1 m g),.one (.i .i64 w)]) (bd4 A B I J n M f r O E m g w hb h c1 c2 c3 hm h4 h5.1 h5.2 (Xg A B I J n M f r O E m g w ok (Zk A B I J n M f r O E ok) h4 hm h5.1 h5.2) (Xg A B I J n M f r O E m g w ok (YU A B I J n M f r O E ok) h4 hm h5.1 h5.2))
    ·have e:bdE A B I J n M f r O E m g w=2:=by
      unfold bdE;rw [h,h4]
      by_cases q:0≤w
      ·rw [(aU 0 w).mpr q,show ax w 99=false by
        cases q2:ax w 99 with
        | false=>rfl
        | true=>rw [aU] at q2;exact absurd ⟨q,q2⟩ h5];rfl
      ·rw [show ax 0 w=false by
        cases q2:ax 0 w with
        | false=>rfl
        | true=>rw [aU] at q2;exact absurd q2 q];rfl
     obtain ⟨e1,e2⟩:=hz 2 e (by decide)
     rw [e,e1,e2]
     exact aK aj EF rfl (das:=[.st [.sl 1 A B,.sl 1 I J,.rr 1 n M f,.i .i64 r,.sl 5 O E],.one (.sl 1 m g),.one (.i .i64 w)]) (bd3 A B I J n M f r O E m g w hb h c1 c2 c3 hm h4 h5)
  ·have e:bdE A B I J n M f r O E m g w=fM A B I J n M f r O E:=by unfold bdE;rw [(ji _ _).mpr h];rfl
   obtain ⟨e1,e2⟩:=hz _ e h
   rw [e,e1,e2]
   exact aK aj EF rfl (das:=[.st [.sl 1 A B,.sl 1 I J,.rr 1 n M f,.i .i64 r,.sl 5 O E],.one (.sl 1 m g),.one (.i .i64 w)]) (bd1 A B I J n M f r O E m g w hb hn hm h)
 ·cases hv
end
end BL
end Go.Proofs.YtiplgejpopellaaGreat
