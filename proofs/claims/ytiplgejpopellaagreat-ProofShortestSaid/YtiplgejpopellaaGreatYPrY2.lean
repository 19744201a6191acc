/- Casks: ProofShortest: the law's run. -/
import Derived.Test.YtiplgejpopellaaGreatYPrY5
import Derived.Test.YtiplgejpopellaaGreatYPrY6
import Derived.Test.YtiplgejpopellaaGreatYPrAw
set_option linter.all false
set_option linter.unusedSimpArgs false
set_option linter.unusedVariables false
namespace Go.Proofs.YtiplgejpopellaaGreat
namespace BL
open Go Go.Ev
set_option maxRecDepth 1000000
set_option maxHeartbeats 0
noncomputable section
variable (A:Nat) (B:Nat→Nat→Int) (I:Nat) (J:Nat→Nat→Int) (n:Nat) (M:Nat→Nat) (f:Nat→Nat→Nat→Int)
def fwC (A:Nat) (B:Nat→Nat→Int) (I:Nat) (J:Nat→Nat→Int) (n:Nat) (M:Nat→Nat) (f:Nat→Nat→Nat→Int) (r:Int) (O:Nat) (E:Nat→Nat→Int) (lo hi:Nat→Int) (a b:Int):Bool:=cond (lD A I n M) (cond (cu (iH A B I J n M f r O E) 0) (cond (Nat.ble 1 O) (cond (az a b) (okQ O E (ai A B I J f O E 0) (ai A B I J f O E 1) (ai A B I J f O E 2) (ai A B I J f O E 3) (ai A B I J f O E 4) (ai A B I J f O E 5) (aj A B I J f O E 0) (aj A B I J f O E 1) (aj A B I J f O E 2) (aj A B I J f O E 3) (aj A B I J f O E 4) (aj A B I J f O E 5) lo hi) false) false) false) false
def fwN (O:Nat) (lo hi:Nat→Int) (a b:Int):Nat:=biN (Int.ofNat (fwX O lo hi a b))
def fwF (O:Nat) (lo hi:Nat→Int) (a b:Int):Nat→Nat→Int:=biF (Int.ofNat (fwX O lo hi a b))
def fwT (O:Nat) (lo hi:Nat→Int) (a b:Int):SV := .tup [.one (.new (.sl 1 (fwN O lo hi a b) (fwF O lo hi a b))),.one (.new (.i .i64 (fwE O lo hi a b)))]
def TT (lo hi:Nat→Int):JQ:=fun das=>match das with | [.st [.sl 1 A B,.sl 1 I J,.rr 1 n M f,.i .i64 r,.sl 5 O E],.st [.i .i64 a,.i .i64 b]]=>some (fwC A B I J n M f r O E lo hi a b,fwT O lo hi a b) | _=>none
theorem Z7 (lo hi:Nat→Int):RQ Tryz.prog 8 (TT lo hi):=by
 intro das v hv
 unfold TT at hv
 split at hv
 ·rename_i A B I J n M f r O E a b
  have hb:=congrArg Prod.fst (Option.some.inj hv)
  have hv:=congrArg Prod.snd (Option.some.inj hv)
  subst hv
  obtain ⟨hs,hb⟩:=ah hb
  obtain ⟨hc,hb⟩:=ah hb
  obtain ⟨h1,hb⟩:=ah hb
  obtain ⟨hab,hq⟩:=ah hb
  have hc:=(dG _ _).mp hc
  have hab:=(aV _ _).mp hab
  have h1:=Nat.le_of_ble_eq_true h1
  obtain ⟨c1,c2,c3⟩:=JX A B I J n M f r O E hc
  have:O=1∨O=2∨O=3∨O=4∨O=5∨O=6:=by omega
  rcases this with rfl | rfl | rfl | rfl | rfl | rfl
  ·exact aW ax (vC lo hi) (fw1 A B I J n M f r E lo hi a b hs hc c1 c3 hab hq)
  ·exact aW ax (vC lo hi) (fw2 A B I J n M f r E lo hi a b hs hc c1 c3 hab hq)
  ·exact aW ax (vC lo hi) (fw3 A B I J n M f r E lo hi a b hs hc c1 c3 hab hq)
  ·exact aW ax (vC lo hi) (fw4 A B I J n M f r E lo hi a b hs hc c1 c3 hab hq)
  ·exact aW ax (vC lo hi) (fw5 A B I J n M f r E lo hi a b hs hc c1 c3 hab hq)
  ·exact aW ax (vC lo hi) (fw6 A B I J n M f r E lo hi a b hs hc c1 c3 hab hq)
 ·cases hv
def XPv:Ext:=jI [(18,cf Uj),(45,cf LJ)] false
theorem Uf:dH Tryz.prog XPv:=dJ (aB (dB ZO)<|aB (dB Wx) bD)
def pvB (A:Nat) (B:Nat→Nat→Int) (I:Nat) (J:Nat→Nat→Int) (n:Nat) (M:Nat→Nat) (f:Nat→Nat→Nat→Int) (r:Int) (O:Nat) (E:Nat→Nat→Int) (m:Nat) (g:Nat→Nat→Int) (w a b:Int):Bool:=cond (cu (bdE A B I J n M f r O E m g w) 0) (ipB (bdL A B I J n M f r O E m g w) (bdH A B I J n M f r O E m g w) a b) false
theorem pv1 (r:Int) (O:Nat) (E:Nat→Nat→Int) (m:Nat) (g:Nat→Nat→Int) (w a b:Int) (s:lD A I n M=true) (kn:O≤1000) (km:m≤1000) (h:bdE A B I J n M f r O E m g w=0):VC (bQ Tryz.prog XPv 300 21 (enc [.st [.sl 1 A B,.sl 1 I J,.rr 1 n M f,.i .i64 r,.sl 5 O E],.one (.sl 1 m g),.one (.i .i64 w),.st [.i .i64 a,.i .i64 b]] 0) 5 (fun v=>bZ v (.bool (ipB (bdL A B I J n M f r O E m g w) (bdH A B I J n M f r O E m g w) a b)))) (.go 21 .nil):=ak (((cond (cond (cond (aJ .i64 (ae .i64 B) A 1) (cond (aJ .i64 (ae .i64 J) I 1) (cond (cond true (dX 2 (aQ 2 1 M f) n 1) false) (cond (aJ .i64 (ae .i64 E) O 5) true false) false) false) false) (cond (aJ .i64 (ae .i64 g) m 1) true false) false) (cond (lD A I n M) (cond (Nat.ble O 1000) (Nat.ble m 1000) false) false) false)=true∧((cu (BL.bdE A B I J n M f r O E m g w) 0)=true∧((BL.ipB (BL.bdL A B I J n M f r O E m g w) (BL.bdH A B I J n M f r O E m g w) a b)=(BL.ipB (BL.bdL A B I J n M f r O E m g w) (BL.bdH A B I J n M f r O E m g w) a b)))))
theorem pv2 (r:Int) (O:Nat) (E:Nat→Nat→Int) (m:Nat) (g:Nat→Nat→Int) (w a b:Int) (s:lD A I n M=true) (kn:O≤1000) (km:m≤1000) (h:¬ bdE A B I J n M f r O E m g w=0):VC (bQ Tryz.prog XPv 300 21 (enc [.st [.sl 1 A B,.sl 1 I J,.rr 1 n M f,.i .i64 r,.sl 5 O E],.one (.sl 1 m g),.one (.i .i64 w),.st [.i .i64 a,.i .i64 b]] 0) 5 (fun v=>bZ v (.bool false))) (.go 25 .nil):=ak (((cond (cond (cond (aJ .i64 (ae .i64 B) A 1) (cond (aJ .i64 (ae .i64 J) I 1) (cond (cond true (dX 2 (aQ 2 1 M f) n 1) false) (cond (aJ .i64 (ae .i64 E) O 5) true false) false) false) false) (cond (aJ .i64 (ae .i64 g) m 1) true false) false) (cond (lD A I n M) (cond (Nat.ble O 1000) (Nat.ble m 1000) false) false) false)=true∧((cu (BL.bdE A B I J n M f r O E m g w) 0)=false∧(false=false))))
def Rh:Val:=fun das=>match das with | [.st [.sl 1 A B,.sl 1 I J,.rr 1 n M f,.i .i64 r,.sl 5 O E],.one (.sl 1 m g),.one (.i .i64 w),.st [.i .i64 a,.i .i64 b]]=>some (cond (lD A I n M) (cond (Nat.ble O 1000) (Nat.ble m 1000) false) false,.bool (pvB A B I J n M f r O E m g w a b)) | _=>none
theorem aae:oC Tryz.prog 21 Rh:=by
 intro das v hv
 unfold Rh at hv
 split at hv
 ·rename_i A B I J n M f r O E m g w a b
  have hb:=congrArg Prod.fst (Option.some.inj hv)
  have hv:=congrArg Prod.snd (Option.some.inj hv)
  subst hv
  obtain ⟨hb,hn⟩:=ah hb
  obtain ⟨hn,hm⟩:=ah hn
  have hn:=Nat.le_of_ble_eq_true hn
  have hm:=Nat.le_of_ble_eq_true hm
  by_cases h:bdE A B I J n M f r O E m g w=0
  ·rw [show pvB A B I J n M f r O E m g w a b=ipB (bdL A B I J n M f r O E m g w) (bdH A B I J n M f r O E m g w) a b by unfold pvB;rw [h];rfl]
   exact aY ax Uf rfl (das:=[.st [.sl 1 A B,.sl 1 I J,.rr 1 n M f,.i .i64 r,.sl 5 O E],.one (.sl 1 m g),.one (.i .i64 w),.st [.i .i64 a,.i .i64 b]]) (pv1 A B I J n M f r O E m g w a b hb hn hm h)
  ·rw [show pvB A B I J n M f r O E m g w a b=false by unfold pvB;rw [(eF _ _).mpr h];rfl]
   exact aY ax Uf rfl (das:=[.st [.sl 1 A B,.sl 1 I J,.rr 1 n M f,.i .i64 r,.sl 5 O E],.one (.sl 1 m g),.one (.i .i64 w),.st [.i .i64 a,.i .i64 b]]) (pv2 A B I J n M f r O E m g w a b hb hn hm h)
 ·cases hv
def ltB:LT:=⟨[0,1,5],[0,1],[4],3⟩
def sB (m:Nat) (g:Nat→Nat→Int) (k:Nat) (h:Nat→Nat→Int) (i:Nat):LS:=⟨[.fz true 0 (ae .i64 g) m 1,.fz true 1 (ae .i64 h) k 1,.int .i64 i],[]⟩
def xB (m:Nat) (g:Nat→Nat→Int) (k:Nat) (h:Nat→Nat→Int):Lv := .exit 0 ⟨[.fz true 0 (ae .i64 g) m 1,.fz true 1 (ae .i64 h) k 1],[]⟩
def bB:Code:=sub [1,0,1,0,0] (dD Tryz.prog 39)
theorem eB (m:Nat) (g:Nat→Nat→Int) (k:Nat) (h:Nat→Nat→Int):VC (qx Tryz.prog aA 300 39 [1,0,1,0] [.one (.sl 1 m g),.one (.sl 1 k h)] (aP 3) ltB 41 60 (sB m g k h 0)) .nil:=ak ((True∧(((((V.fz true 0 (ae .i64 g) m 1):V)=(V.fz true 0 (ae .i64 g) m 1))∧((((V.fz true 1 (ae .i64 h) k 1):V)=(V.fz true 1 (ae .i64 h) k 1))∧((((0):Int)=0)∧True)))∧True)))
theorem rB1 (m:Nat) (g:Nat→Nat→Int) (k:Nat) (h:Nat→Nat→Int) (i:Nat) (h1:i<m) (h2:i<k) (h3:m≤1000) (h4:k≤1000) (h5:g i 0=h i 0):VC (bK Tryz.prog aA 300 bB (aP 3) ltB 41 60 (sB m g k h i) (.next (sB m g k h (i+1)))) (.go 1463297 .nil):=ak (((not (az (m:Int) (i:Int)))=true∧((not (az (k:Int) (i:Int)))=true∧((Nat.blt i m)=true∧((Nat.blt i k)=true∧((not (cu (g i 0) (h i 0)))=false∧((small ((i:Int)+1))=true∧(((((V.fz true 0 (ae .i64 g) m 1):V)=(V.fz true 0 (ae .i64 g) m 1))∧((((V.fz true 1 (ae .i64 h) k 1):V)=(V.fz true 1 (ae .i64 h) k 1))∧(((((i:Int)+1):Int)=(((i+1):Nat):Int))∧True)))∧True))))))))
theorem rB2 (m:Nat) (g:Nat→Nat→Int) (k:Nat) (h:Nat→Nat→Int) (i:Nat) (h1:i<m) (h2:i<k) (h3:m≤1000) (h4:k≤1000) (h5:g i 0<h i 0):VC (bK Tryz.prog aA 300 bB (aP 3) ltB 41 60 (sB m g k h i) (.ret ⟨[.bool true],[]⟩)) (.go 5592065 .nil):=ak (((not (az (m:Int) (i:Int)))=true∧((not (az (k:Int) (i:Int)))=true∧((Nat.blt i m)=true∧((Nat.blt i k)=true∧((not (cu (g i 0) (h i 0)))=true∧((Nat.blt i m)=true∧((Nat.blt i k)=true∧((((not (az (h i 0) (g i 0)))=true)∧True)∧True)))))))))
theorem rB3 (m:Nat) (g:Nat→Nat→Int) (k:Nat) (h:Nat→Nat→Int) (i:Nat) (h1:i<m) (h2:i<k) (h3:m≤1000) (h4:k≤1000) (h5:h i 0<g i 0):VC (bK Tryz.prog aA 300 bB (aP 3) ltB 41 60 (sB m g k h i) (.ret ⟨[.bool false],[]⟩)) (.go 5592065 .nil):=ak (((not (az (m:Int) (i:Int)))=true∧((not (az (k:Int) (i:Int)))=true∧((Nat.blt i m)=true∧((Nat.blt i k)=true∧((not (cu (g i 0) (h i 0)))=true∧((Nat.blt i m)=true∧((Nat.blt i k)=true∧((((not (az (h i 0) (g i 0)))=false)∧True)∧True)))))))))
theorem rB4 (m:Nat) (g:Nat→Nat→Int) (k:Nat) (h:Nat→Nat→Int) (i:Nat) (h1:¬ i<m):VC (bK Tryz.prog aA 300 bB (aP 3) ltB 41 60 (sB m g k h i) (xB m g k h)) (.go 6 .nil):=ak (((not (az (m:Int) (i:Int)))=false∧(((((V.fz true 0 (ae .i64 g) m 1):V)=(V.fz true 0 (ae .i64 g) m 1))∧((((V.fz true 1 (ae .i64 h) k 1):V)=(V.fz true 1 (ae .i64 h) k 1))∧True))∧True)))
theorem rB5 (m:Nat) (g:Nat→Nat→Int) (k:Nat) (h:Nat→Nat→Int) (i:Nat) (h1:i<m) (h2:¬ i<k):VC (bK Tryz.prog aA 300 bB (aP 3) ltB 41 60 (sB m g k h i) (xB m g k h)) (.go 6145 .nil):=ak (((not (az (m:Int) (i:Int)))=true∧((not (az (k:Int) (i:Int)))=false∧(((((V.fz true 0 (ae .i64 g) m 1):V)=(V.fz true 0 (ae .i64 g) m 1))∧((((V.fz true 1 (ae .i64 h) k 1):V)=(V.fz true 1 (ae .i64 h) k 1))∧True))∧True))))
theorem fB1  : VC (fromD Tryz.prog aA 300 39 [1,0,1,0] (Lv.res ltB 41 (iL (aP 3) ltB 60 (.ret ⟨[.bool true],[]⟩)) (.ret ⟨[.bool true],[]⟩)) (.bool true)) .nil:=ak ((true=true))
theorem fB2  : VC (fromD Tryz.prog aA 300 39 [1,0,1,0] (Lv.res ltB 41 (iL (aP 3) ltB 60 (.ret ⟨[.bool false],[]⟩)) (.ret ⟨[.bool false],[]⟩)) (.bool false)) .nil:=ak ((false=false))
theorem fB3 (m:Nat) (g:Nat→Nat→Int) (k:Nat) (h:Nat→Nat→Int) (q:m<k):VC (fromD Tryz.prog aA 300 39 [1,0,1,0] (Lv.res ltB 41 (iL (aP 3) ltB 60 (xB m g k h)) (xB m g k h)) (.bool true)) .nil:=ak (((not (az (k:Int) (m:Int)))=true))
theorem fB4 (m:Nat) (g:Nat→Nat→Int) (k:Nat) (h:Nat→Nat→Int) (q:¬ m<k):VC (fromD Tryz.prog aA 300 39 [1,0,1,0] (Lv.res ltB 41 (iL (aP 3) ltB 60 (xB m g k h)) (xB m g k h)) (.bool false)) .nil:=ak (((not (az (k:Int) (m:Int)))=false))
def bfR (g h:Nat→Nat→Int) (t:Bool) (d:Nat):Nat→Bool:=Nat.rec (motive:=fun _=>Nat→Bool) (fun _=>t) (fun _ ih i=>cond (cu (g i 0) (h i 0)) (ih (Nat.succ i)) (cond (az (h i 0) (g i 0)) false true)) d
def bfV (m:Nat) (g:Nat→Nat→Int) (k:Nat) (h:Nat→Nat→Int):Bool:=bfR g h (Nat.blt m k) (cond (Nat.ble m k) m k) 0
def shV (m:Nat) (g:Nat→Nat→Int) (k:Nat) (h:Nat→Nat→Int):Bool:=cond (Nat.blt m k) true (cond (Nat.beq m k) (bfV m g k h) false)
def Ib:Val:=fun das=>match das with | [.one (.sl 1 m g),.one (.sl 1 k h)]=>some (cond (Nat.ble m 1000) (Nat.ble k 1000) false,.bool (bfV m g k h)) | _=>none
theorem MJ {g h:Nat→Nat→Int} {t:Bool}:∀ (d i:Nat),(∀ j,i≤j→j<i+d→g j 0=h j 0)→bfR g h t d i=t
 | 0,_,_=>rfl
 | d+1,i,q=>by
  show cond (cu (g i 0) (h i 0)) (bfR g h t d (i+1)) _=t
  rw [(dG _ _).mpr (q i (Nat.le_refl i) (by omega))]
  exact MJ d (i+1) fun j h1 h2=>q j (by omega) (by omega)
theorem Lc {g h:Nat→Nat→Int} {t:Bool} {N:Nat} (hn:¬ g N 0=h N 0):∀ (d i:Nat),i≤N→N<i+d→(∀ j,i≤j→j<N→g j 0=h j 0)→bfR g h t d i=cond (az (h N 0) (g N 0)) false true
 | 0,_,h1,h2,_=>by omega
 | d+1,i,h1,h2,q=>by
  show cond (cu (g i 0) (h i 0)) (bfR g h t d (i+1)) _=_
  by_cases e:i=N
  ·subst e;rw [(eF _ _).mpr hn];rfl
  ·rw [(dG _ _).mpr (q i (Nat.le_refl i) (by omega))]
   exact Lc hn d (i+1) (by omega) (by omega) fun j h3 h4=>q j (by omega) h4
def eqB (g h:Nat→Nat→Int) (i:Nat):Bool:=decide (g i 0=h i 0)
theorem Xt:oC Tryz.prog 39 Ib:=by
 intro das v hv
 unfold Ib at hv
 split at hv
 ·rename_i m g k h
  have hb:=congrArg Prod.fst (Option.some.inj hv)
  have hv:=congrArg Prod.snd (Option.some.inj hv)
  subst hv
  obtain ⟨hm,hk⟩:=ah hb
  have hm:=Nat.le_of_ble_eq_true hm
  have hk:=Nat.le_of_ble_eq_true hk
  have hd:cond (Nat.ble m k) m k≤m∧cond (Nat.ble m k) m k≤k∧(cond (Nat.ble m k) m k=m∨cond (Nat.ble m k) m k=k):=by
   by_cases h:m≤k
   ·rw [dN h];exact ⟨Nat.le_refl m,h,.inl rfl⟩
   ·rw [show Nat.ble m k=false by rw [fV];omega];exact ⟨by show k≤m;omega,Nat.le_refl k,.inr rfl⟩
  refine ⟨rfl,?_⟩
  unfold bfV
  generalize hD:cond (Nat.ble m k) m k=d at hd
  have nx:∀ i,i<d→g i 0=h i 0→JL Tryz.prog (aP 3) ltB 41 60 none bB (sB m g k h i) (.next (sB m g k h (i+1))):=fun i hi q=>aT ax aG (rB1 m g k h i (by omega) (by omega) hm hk q).ok (by kernel_rfl) (by kernel_rfl)
  rcases fA (eqB g h) d with q | ⟨N,q1,q2,q3⟩
  ·have q:∀ i,i<d→g i 0=h i 0:=fun i hi=>of_decide_eq_true (q i hi)
   rw [MJ d 0 fun j _ h2=>q j (by omega)]
   have ex:JL Tryz.prog (aP 3) ltB 41 60 none bB (sB m g k h d) (xB m g k h):=by
    by_cases e:d<m
    ·exact aT ax aG (rB5 m g k h d e (by omega)).ok (by kernel_rfl) (by kernel_rfl)
    ·exact aT ax aG (rB4 m g k h d e).ok (by kernel_rfl) (by kernel_rfl)
   by_cases mk:m<k
   ·rw [CE mk]
    exact bF ax aG (das:=[.one (.sl 1 m g),.one (.sl 1 k h)]) (lv:=xB m g k h) (by kernel_rfl) (by kernel_rfl) (eB m g k h).ok (bi (body:=bB) (fun _ e=>by cases e) d (sB m g k h) (fun i hi=>nx i hi (q i hi)) ex) (fB3 m g k h mk).ok
   ·rw [Ua mk]
    exact bF ax aG (das:=[.one (.sl 1 m g),.one (.sl 1 k h)]) (lv:=xB m g k h) (by kernel_rfl) (by kernel_rfl) (eB m g k h).ok (bi (body:=bB) (fun _ e=>by cases e) d (sB m g k h) (fun i hi=>nx i hi (q i hi)) ex) (fB4 m g k h mk).ok
  ·have q2:∀ i,i<N→g i 0=h i 0:=fun i hi=>of_decide_eq_true (q2 i hi)
   have q3:¬ g N 0=h N 0:=of_decide_eq_false q3
   rw [Lc q3 d 0 (Nat.zero_le N) (by omega) fun j _ h2=>q2 j h2]
   by_cases lt:g N 0<h N 0
   ·rw [(dS _ _).mpr (by omega)]
    exact bF ax aG (das:=[.one (.sl 1 m g),.one (.sl 1 k h)]) (lv := .ret ⟨[.bool true],[]⟩) (by kernel_rfl) (by kernel_rfl) (eB m g k h).ok (bi (body:=bB) (fun _ e=>by cases e) N (sB m g k h) (fun i hi=>nx i (by omega) (q2 i hi)) (aT ax aG (rB2 m g k h N (by omega) (by omega) hm hk lt).ok (by kernel_rfl) (by kernel_rfl))) fB1.ok
   ·rw [(aV _ _).mpr (by omega)]
    exact bF ax aG (das:=[.one (.sl 1 m g),.one (.sl 1 k h)]) (lv := .ret ⟨[.bool false],[]⟩) (by kernel_rfl) (by kernel_rfl) (eB m g k h).ok (bi (body:=bB) (fun _ e=>by cases e) N (sB m g k h) (fun i hi=>nx i (by omega) (q2 i hi)) (aT ax aG (rB3 m g k h N (by omega) (by omega) hm hk (by omega)).ok (by kernel_rfl) (by kernel_rfl))) fB2.ok
 ·cases hv
def XSh:Ext:=jI [(39,cf Ib)] false
theorem Ia:dH Tryz.prog XSh:=dJ (aB (dB Xt) bD)
theorem sh1 (m:Nat) (g:Nat→Nat→Int) (k:Nat) (h:Nat→Nat→Int) (h3:m≤1000) (h4:k≤1000) (q:m<k):VC (bQ Tryz.prog XSh 300 22 (enc [.one (.sl 1 m g),.one (.sl 1 k h)] 0) 2 (fun v=>bZ v (.bool true))) (.go 5 .nil):=ak (((not (az (k:Int) (m:Int)))=true∧(true=true)))
theorem sh2 (m:Nat) (g:Nat→Nat→Int) (k:Nat) (h:Nat→Nat→Int) (h3:m≤1000) (h4:k≤1000) (q:m=k):VC (bQ Tryz.prog XSh 300 22 (enc [.one (.sl 1 m g),.one (.sl 1 k h)] 0) 2 (fun v=>bZ v (.bool (bfV m g k h)))) (.go 1314818 .nil):=ak (((not (az (k:Int) (m:Int)))=false∧((cu (m:Int) (k:Int))=true∧((cond (cond (aJ .i64 (ae .i64 g) m 1) (cond (aJ .i64 (ae .i64 h) k 1) true false) false) (cond (Nat.ble m 1000) (Nat.ble k 1000) false) false)=true∧((BL.bfV m g k h)=(BL.bfV m g k h))))))
theorem sh3 (m:Nat) (g:Nat→Nat→Int) (k:Nat) (h:Nat→Nat→Int) (h3:m≤1000) (h4:k≤1000) (q:k<m):VC (bQ Tryz.prog XSh 300 22 (enc [.one (.sl 1 m g),.one (.sl 1 k h)] 0) 2 (fun v=>bZ v (.bool false))) (.go 24578 .nil):=ak (((not (az (k:Int) (m:Int)))=false∧((cu (m:Int) (k:Int))=false∧(false=false))))
def S9:Val:=fun das=>match das with | [.one (.sl 1 m g),.one (.sl 1 k h)]=>some (cond (Nat.ble m 1000) (Nat.ble k 1000) false,.bool (shV m g k h)) | _=>none
theorem YG:oC Tryz.prog 22 S9:=by
 intro das v hv
 unfold S9 at hv
 split at hv
 ·rename_i m g k h
  have hb:=congrArg Prod.fst (Option.some.inj hv)
  have hv:=congrArg Prod.snd (Option.some.inj hv)
  subst hv
  obtain ⟨hm,hk⟩:=ah hb
  have hm:=Nat.le_of_ble_eq_true hm
  have hk:=Nat.le_of_ble_eq_true hk
  unfold shV
  by_cases q:m<k
  ·rw [CE q]
   exact aY ax Ia rfl (das:=[.one (.sl 1 m g),.one (.sl 1 k h)]) (sh1 m g k h hm hk q)
  ·rw [Ua q]
   by_cases e:m=k
   ·rw [(iy _ _).mpr e]
    exact aY ax Ia rfl (das:=[.one (.sl 1 m g),.one (.sl 1 k h)]) (sh2 m g k h hm hk e)
   ·rw [(fJ _ _).mpr e]
    exact aY ax Ia rfl (das:=[.one (.sl 1 m g),.one (.sl 1 k h)]) (sh3 m g k h hm hk (by omega))
 ·cases hv
def XP (lo hi:Nat→Int):Ext:=jI [(7,cf Qu),(23,cf Qr),(9,cfS PE),(16,cfN Q9),(21,cf Rh),(8,cfS (TT lo hi)),(22,cf S9),(35,cf Px)] false
theorem Y8 (lo hi:Nat→Int):dH Tryz.prog (XP lo hi):=dJ (aB (dB YX)<|aB (dB YF)<|aB (tZ YY)<|aB (Le YW)<|aB (dB aae)<|aB (tZ (Z7 lo hi))<|aB (dB YG)<|aB (dB Y9) bD)
theorem py1 (r:Int) (O:Nat) (E:Nat→Nat→Int) (lo hi:Nat→Int) (u w b:Int) (h:gQ A I n M=false):VC (bQ Tryz.prog (XP lo hi) 600 5 (enc [.st [.sl 1 A B,.sl 1 I J,.rr 1 n M f,.i .i64 r,.sl 5 O E],.one (.i .u16 u),.one (.i .u16 w),.one (.i .u8 b)] 0) 4 (fun v=>bZ v (.bool true))) (.go 25 .nil):=ak (((cond (cond (aI 2 A B I J n M f) true false) true false)=true∧((gQ A I n M)=false∧(true=true))))
theorem py2 (r:Int) (O:Nat) (E:Nat→Nat→Int) (lo hi:Nat→Int) (u w b:Int) (h:gQ A I n M=true) (h2:¬ O≤9):VC (bQ Tryz.prog (XP lo hi) 600 5 (enc [.st [.sl 1 A B,.sl 1 I J,.rr 1 n M f,.i .i64 r,.sl 5 O E],.one (.i .u16 u),.one (.i .u16 w),.one (.i .u8 b)] 0) 4 (fun v=>bZ v (.bool true))) (.go 24581 .nil):=ak (((cond (cond (aI 2 A B I J n M f) true false) true false)=true∧((gQ A I n M)=true∧((az (O:Int) 9)=false∧(true=true)))))
theorem py3 (r:Int) (O:Nat) (E:Nat→Nat→Int) (lo hi:Nat→Int) (u w b:Int) (h:gQ A I n M=true) (h2:O≤9) (hc:¬ iH A B I J n M f r O E=0):VC (bQ Tryz.prog (XP lo hi) 600 5 (enc [.st [.sl 1 A B,.sl 1 I J,.rr 1 n M f,.i .i64 r,.sl 5 O E],.one (.i .u16 u),.one (.i .u16 w),.one (.i .u8 b)] 0) 4 (fun v=>bZ v (.bool true))) (.go 25235461 .nil):=ak (((cond (cond (aI 2 A B I J n M f) true false) true false)=true∧((gQ A I n M)=true∧((az (O:Int) 9)=true∧((cond (cond (cond (aJ .i64 (ae .i64 B) A 1) (cond (aJ .i64 (ae .i64 J) I 1) (cond (cond true (dX 2 (aQ 2 1 M f) n 1) false) (cond (aJ .i64 (ae .i64 E) O 5) true false) false) false) false) true false) (gQ A I n M) false)=true∧((cu (iH A B I J n M f r O E) 0)=false∧(true=true)))))))
theorem py4 (r:Int) (O:Nat) (E:Nat→Nat→Int) (lo hi:Nat→Int) (u w b:Int) (h:gQ A I n M=true) (h2:O=0) (hc:iH A B I J n M f r O E=0):VC (bQ Tryz.prog (XP lo hi) 600 5 (enc [.st [.sl 1 A B,.sl 1 I J,.rr 1 n M f,.i .i64 r,.sl 5 O E],.one (.i .u16 u),.one (.i .u16 w),.one (.i .u8 b)] 0) 4 (fun v=>bZ v (.bool true))) (.go 21479100421 .nil):=ak (((cond (cond (aI 2 A B I J n M f) true false) true false)=true∧((gQ A I n M)=true∧((az (O:Int) 9)=true∧((cond (cond (cond (aJ .i64 (ae .i64 B) A 1) (cond (aJ .i64 (ae .i64 J) I 1) (cond (cond true (dX 2 (aQ 2 1 M f) n 1) false) (cond (aJ .i64 (ae .i64 E) O 5) true false) false) false) false) true false) (gQ A I n M) false)=true∧((cu (iH A B I J n M f r O E) 0)=true∧((not (not (az (O:Int) 0)))=true∧(true=true))))))))
theorem py5 (r:Int) (O:Nat) (E:Nat→Nat→Int) (lo hi:Nat→Int) (u w b:Int) (h:gQ A I n M=true) (s:lD A I n M=true) (h1:1≤O) (h2:O≤6) (hc:iH A B I J n M f r O E=0) (hu:0≤u∧u≤65535) (hw:0≤w∧w≤65535) (hb:0≤b∧b≤255) (q1:0≤Int.tmod u 2001∧Int.tmod u 2001≤2000) (q2:0≤Int.tmod w 600∧Int.tmod w 600≤599) (km:soN O b≤6) (kx:(fwN O lo hi (Int.tmod u 2001) (Int.tmod u 2001+Int.tmod w 600))≤6) (hq:okQ O E (ai A B I J f O E 0) (ai A B I J f O E 1) (ai A B I J f O E 2) (ai A B I J f O E 3) (ai A B I J f O E 4) (ai A B I J f O E 5) (aj A B I J f O E 0) (aj A B I J f O E 1) (aj A B I J f O E 2) (aj A B I J f O E 3) (aj A B I J f O E 4) (aj A B I J f O E 5) lo hi=true) (e1:fwE O lo hi (Int.tmod u 2001) (Int.tmod u 2001+Int.tmod w 600)=7) (p1:pvB A B I J n M f r O E (soN O b) (soF O b) 0 (Int.tmod u 2001) (Int.tmod u 2001+Int.tmod w 600)=false):VC (bQ Tryz.prog (XP lo hi) 600 5 (enc [.st [.sl 1 A B,.sl 1 I J,.rr 1 n M f,.i .i64 r,.sl 5 O E],.one (.i .u16 u),.one (.i .u16 w),.one (.i .u8 b)] 0) 4 (fun v=>bZ v (.bool true))) (.go 1481888421830451073029 .nil):=ak (((cond (cond (aI 2 A B I J n M f) true false) true false)=true∧((gQ A I n M)=true∧((az (O:Int) 9)=true∧((cond (cond (cond (aJ .i64 (ae .i64 B) A 1) (cond (aJ .i64 (ae .i64 J) I 1) (cond (cond true (dX 2 (aQ 2 1 M f) n 1) false) (cond (aJ .i64 (ae .i64 E) O 5) true false) false) false) false) true false) (gQ A I n M) false)=true∧((cu (iH A B I J n M f r O E) 0)=true∧((not (not (az (O:Int) 0)))=false∧((small u)=true∧((small u)=true∧((small w)=true∧((small ((Int.tmod u 2001)+(Int.tmod w 600)))=true∧((cond (cond (cond (aJ .i64 (ae .i64 B) A 1) (cond (aJ .i64 (ae .i64 J) I 1) (cond (cond true (dX 2 (aQ 2 1 M f) n 1) false) (cond (aJ .i64 (ae .i64 E) O 5) true false) false) false) false) true false) (cond (gQ A I n M) (Nat.ble O 9) false) false)=true∧((cond (cond (cond (aJ .i64 (ae .i64 B) A 1) (cond (aJ .i64 (ae .i64 J) I 1) (cond (cond true (dX 13 (aQ 13 1 M f) n 1) false) (cond (aJ .i64 (ae .i64 E) O 5) true false) false) false) false) true false) (cond (lD A I n M) (cond (cu (iH A B I J n M f r O E) 0) (cond (Nat.ble 1 O) (cond (az (Int.tmod u 2001) ((Int.tmod u 2001)+(Int.tmod w 600))) (BL.okQ O E (ai A B I J f O E 0) (ai A B I J f O E 1) (ai A B I J f O E 2) (ai A B I J f O E 3) (ai A B I J f O E 4) (ai A B I J f O E 5) (aj A B I J f O E 0) (aj A B I J f O E 1) (aj A B I J f O E 2) (aj A B I J f O E 3) (aj A B I J f O E 4) (aj A B I J f O E 5) lo hi) false) false) false) false) false)=true∧((cond (cond (cond (aJ .i64 (ae .i64 B) A 1) (cond (aJ .i64 (ae .i64 J) I 1) (cond (cond true (dX 2 (aQ 2 1 M f) n 1) false) (cond (aJ .i64 (ae .i64 E) O 5) true false) false) false) false) true false) (cond (Nat.ble 1 O) (cond (Nat.ble O 6) (cond (az 0 b) (az b 255) false) false) false) false)=true∧((cond (cond (cond (aJ .i64 (ae .i64 B) A 1) (cond (aJ .i64 (ae .i64 J) I 1) (cond (cond true (dX 2 (aQ 2 1 M f) n 1) false) (cond (aJ .i64 (ae .i64 E) O 5) true false) false) false) false) true false) (cond (gQ A I n M) (Nat.ble O 9) false) false)=true∧((Nat.ble (BL.soN O b) 1048576)=true∧((cond (cond (cond (aJ .i64 (ae .i64 B) A 1) (cond (aJ .i64 (ae .i64 J) I 1) (cond (cond true (dX 16 (aQ 16 1 M f) n 1) false) (cond (aJ .i64 (ae .i64 E) O 5) true false) false) false) false) (cond (aJ .i64 (ae .i64 (BL.soF O b)) (BL.soN O b) 1) true false) false) (cond (lD A I n M) (cond (Nat.ble O 1000) (Nat.ble (BL.soN O b) 1000) false) false) false)=true∧((not (cu (BL.fwE O lo hi (Int.tmod u 2001) ((Int.tmod u 2001)+(Int.tmod w 600))) 0))=true∧((cu (BL.fwE O lo hi (Int.tmod u 2001) ((Int.tmod u 2001)+(Int.tmod w 600))) 7)=true∧((not (BL.pvB A B I J n M f r O E (BL.soN O b) (BL.soF O b) 0 (Int.tmod u 2001) ((Int.tmod u 2001)+(Int.tmod w 600))))=true∧(true=true)))))))))))))))))))))
theorem py6 (r:Int) (O:Nat) (E:Nat→Nat→Int) (lo hi:Nat→Int) (u w b:Int) (h:gQ A I n M=true) (s:lD A I n M=true) (h1:1≤O) (h2:O≤6) (hc:iH A B I J n M f r O E=0) (hu:0≤u∧u≤65535) (hw:0≤w∧w≤65535) (hb:0≤b∧b≤255) (q1:0≤Int.tmod u 2001∧Int.tmod u 2001≤2000) (q2:0≤Int.tmod w 600∧Int.tmod w 600≤599) (km:soN O b≤6) (kx:(fwN O lo hi (Int.tmod u 2001) (Int.tmod u 2001+Int.tmod w 600))≤6) (hq:okQ O E (ai A B I J f O E 0) (ai A B I J f O E 1) (ai A B I J f O E 2) (ai A B I J f O E 3) (ai A B I J f O E 4) (ai A B I J f O E 5) (aj A B I J f O E 0) (aj A B I J f O E 1) (aj A B I J f O E 2) (aj A B I J f O E 3) (aj A B I J f O E 4) (aj A B I J f O E 5) lo hi=true) (e1:fwE O lo hi (Int.tmod u 2001) (Int.tmod u 2001+Int.tmod w 600)=0) (p1:pvB A B I J n M f r O E (soN O b) (soF O b) 0 (Int.tmod u 2001) (Int.tmod u 2001+Int.tmod w 600)=false) (p2:pvB A B I J n M f r O E (fwN O lo hi (Int.tmod u 2001) (Int.tmod u 2001+Int.tmod w 600)) (fwF O lo hi (Int.tmod u 2001) (Int.tmod u 2001+Int.tmod w 600)) 0 (Int.tmod u 2001) (Int.tmod u 2001+Int.tmod w 600)=true):VC (bQ Tryz.prog (XP lo hi) 600 5 (enc [.st [.sl 1 A B,.sl 1 I J,.rr 1 n M f,.i .i64 r,.sl 5 O E],.one (.i .u16 u),.one (.i .u16 w),.one (.i .u8 b)] 0) 4 (fun v=>bZ v (.bool true))) (.go 28728882340204065656837 .nil):=ak (((cond (cond (aI 2 A B I J n M f) true false) true false)=true∧((gQ A I n M)=true∧((az (O:Int) 9)=true∧((cond (cond (cond (aJ .i64 (ae .i64 B) A 1) (cond (aJ .i64 (ae .i64 J) I 1) (cond (cond true (dX 2 (aQ 2 1 M f) n 1) false) (cond (aJ .i64 (ae .i64 E) O 5) true false) false) false) false) true false) (gQ A I n M) false)=true∧((cu (iH A B I J n M f r O E) 0)=true∧((not (not (az (O:Int) 0)))=false∧((small u)=true∧((small u)=true∧((small w)=true∧((small ((Int.tmod u 2001)+(Int.tmod w 600)))=true∧((cond (cond (cond (aJ .i64 (ae .i64 B) A 1) (cond (aJ .i64 (ae .i64 J) I 1) (cond (cond true (dX 2 (aQ 2 1 M f) n 1) false) (cond (aJ .i64 (ae .i64 E) O 5) true false) false) false) false) true false) (cond (gQ A I n M) (Nat.ble O 9) false) false)=true∧((cond (cond (cond (aJ .i64 (ae .i64 B) A 1) (cond (aJ .i64 (ae .i64 J) I 1) (cond (cond true (dX 13 (aQ 13 1 M f) n 1) false) (cond (aJ .i64 (ae .i64 E) O 5) true false) false) false) false) true false) (cond (lD A I n M) (cond (cu (iH A B I J n M f r O E) 0) (cond (Nat.ble 1 O) (cond (az (Int.tmod u 2001) ((Int.tmod u 2001)+(Int.tmod w 600))) (BL.okQ O E (ai A B I J f O E 0) (ai A B I J f O E 1) (ai A B I J f O E 2) (ai A B I J f O E 3) (ai A B I J f O E 4) (ai A B I J f O E 5) (aj A B I J f O E 0) (aj A B I J f O E 1) (aj A B I J f O E 2) (aj A B I J f O E 3) (aj A B I J f O E 4) (aj A B I J f O E 5) lo hi) false) false) false) false) false)=true∧((cond (cond (cond (aJ .i64 (ae .i64 B) A 1) (cond (aJ .i64 (ae .i64 J) I 1) (cond (cond true (dX 2 (aQ 2 1 M f) n 1) false) (cond (aJ .i64 (ae .i64 E) O 5) true false) false) false) false) true false) (cond (Nat.ble 1 O) (cond (Nat.ble O 6) (cond (az 0 b) (az b 255) false) false) false) false)=true∧((cond (cond (cond (aJ .i64 (ae .i64 B) A 1) (cond (aJ .i64 (ae .i64 J) I 1) (cond (cond true (dX 2 (aQ 2 1 M f) n 1) false) (cond (aJ .i64 (ae .i64 E) O 5) true false) false) false) false) true false) (cond (gQ A I n M) (Nat.ble O 9) false) false)=true∧((Nat.ble (BL.soN O b) 1048576)=true∧((cond (cond (cond (aJ .i64 (ae .i64 B) A 1) (cond (aJ .i64 (ae .i64 J) I 1) (cond (cond true (dX 16 (aQ 16 1 M f) n 1) false) (cond (aJ .i64 (ae .i64 E) O 5) true false) false) false) false) (cond (aJ .i64 (ae .i64 (BL.soF O b)) (BL.soN O b) 1) true false) false) (cond (lD A I n M) (cond (Nat.ble O 1000) (Nat.ble (BL.soN O b) 1000) false) false) false)=true∧((not (cu (BL.fwE O lo hi (Int.tmod u 2001) ((Int.tmod u 2001)+(Int.tmod w 600))) 0))=false∧((cond (cond (cond (aJ .i64 (ae .i64 B) A 1) (cond (aJ .i64 (ae .i64 J) I 1) (cond (cond true (dX 2 (aQ 2 1 M f) n 1) false) (cond (aJ .i64 (ae .i64 E) O 5) true false) false) false) false) true false) (cond (gQ A I n M) (Nat.ble O 9) false) false)=true∧((Nat.ble (BL.fwN O lo hi (Int.tmod u 2001) ((Int.tmod u 2001)+(Int.tmod w 600))) 1048576)=true∧((cond (cond (cond (aJ .i64 (ae .i64 B) A 1) (cond (aJ .i64 (ae .i64 J) I 1) (cond (cond true (dX 20 (aQ 20 1 M f) n 1) false) (cond (aJ .i64 (ae .i64 E) O 5) true false) false) false) false) (cond (aJ .i64 (ae .i64 (BL.fwF O lo hi (Int.tmod u 2001) ((Int.tmod u 2001)+(Int.tmod w 600)))) (BL.fwN O lo hi (Int.tmod u 2001) ((Int.tmod u 2001)+(Int.tmod w 600))) 1) true false) false) (cond (lD A I n M) (cond (Nat.ble O 1000) (Nat.ble (BL.fwN O lo hi (Int.tmod u 2001) ((Int.tmod u 2001)+(Int.tmod w 600))) 1000) false) false) false)=true∧((BL.pvB A B I J n M f r O E (BL.fwN O lo hi (Int.tmod u 2001) ((Int.tmod u 2001)+(Int.tmod w 600))) (BL.fwF O lo hi (Int.tmod u 2001) ((Int.tmod u 2001)+(Int.tmod w 600))) 0 (Int.tmod u 2001) ((Int.tmod u 2001)+(Int.tmod w 600)))=true∧((BL.pvB A B I J n M f r O E (BL.soN O b) (BL.soF O b) 0 (Int.tmod u 2001) ((Int.tmod u 2001)+(Int.tmod w 600)))=false∧(true=true))))))))))))))))))))))))
theorem py7 (r:Int) (O:Nat) (E:Nat→Nat→Int) (lo hi:Nat→Int) (u w b:Int) (h:gQ A I n M=true) (s:lD A I n M=true) (h1:1≤O) (h2:O≤6) (hc:iH A B I J n M f r O E=0) (hu:0≤u∧u≤65535) (hw:0≤w∧w≤65535) (hb:0≤b∧b≤255) (q1:0≤Int.tmod u 2001∧Int.tmod u 2001≤2000) (q2:0≤Int.tmod w 600∧Int.tmod w 600≤599) (km:soN O b≤6) (kx:(fwN O lo hi (Int.tmod u 2001) (Int.tmod u 2001+Int.tmod w 600))≤6) (hq:okQ O E (ai A B I J f O E 0) (ai A B I J f O E 1) (ai A B I J f O E 2) (ai A B I J f O E 3) (ai A B I J f O E 4) (ai A B I J f O E 5) (aj A B I J f O E 0) (aj A B I J f O E 1) (aj A B I J f O E 2) (aj A B I J f O E 3) (aj A B I J f O E 4) (aj A B I J f O E 5) lo hi=true) (e1:fwE O lo hi (Int.tmod u 2001) (Int.tmod u 2001+Int.tmod w 600)=0) (p1:pvB A B I J n M f r O E (soN O b) (soF O b) 0 (Int.tmod u 2001) (Int.tmod u 2001+Int.tmod w 600)=true) (p2:pvB A B I J n M f r O E (fwN O lo hi (Int.tmod u 2001) (Int.tmod u 2001+Int.tmod w 600)) (fwF O lo hi (Int.tmod u 2001) (Int.tmod u 2001+Int.tmod w 600)) 0 (Int.tmod u 2001) (Int.tmod u 2001+Int.tmod w 600)=true) (p3:shV (soN O b) (soF O b) (fwN O lo hi (Int.tmod u 2001) (Int.tmod u 2001+Int.tmod w 600)) (fwF O lo hi (Int.tmod u 2001) (Int.tmod u 2001+Int.tmod w 600))=false):VC (bQ Tryz.prog (XP lo hi) 600 5 (enc [.st [.sl 1 A B,.sl 1 I J,.rr 1 n M f,.i .i64 r,.sl 5 O E],.one (.i .u16 u),.one (.i .u16 w),.one (.i .u8 b)] 0) 4 (fun v=>bZ v (.bool true))) (.go 1547732397611554856757170181 .nil):=ak (((cond (cond (aI 2 A B I J n M f) true false) true false)=true∧((gQ A I n M)=true∧((az (O:Int) 9)=true∧((cond (cond (cond (aJ .i64 (ae .i64 B) A 1) (cond (aJ .i64 (ae .i64 J) I 1) (cond (cond true (dX 2 (aQ 2 1 M f) n 1) false) (cond (aJ .i64 (ae .i64 E) O 5) true false) false) false) false) true false) (gQ A I n M) false)=true∧((cu (iH A B I J n M f r O E) 0)=true∧((not (not (az (O:Int) 0)))=false∧((small u)=true∧((small u)=true∧((small w)=true∧((small ((Int.tmod u 2001)+(Int.tmod w 600)))=true∧((cond (cond (cond (aJ .i64 (ae .i64 B) A 1) (cond (aJ .i64 (ae .i64 J) I 1) (cond (cond true (dX 2 (aQ 2 1 M f) n 1) false) (cond (aJ .i64 (ae .i64 E) O 5) true false) false) false) false) true false) (cond (gQ A I n M) (Nat.ble O 9) false) false)=true∧((cond (cond (cond (aJ .i64 (ae .i64 B) A 1) (cond (aJ .i64 (ae .i64 J) I 1) (cond (cond true (dX 13 (aQ 13 1 M f) n 1) false) (cond (aJ .i64 (ae .i64 E) O 5) true false) false) false) false) true false) (cond (lD A I n M) (cond (cu (iH A B I J n M f r O E) 0) (cond (Nat.ble 1 O) (cond (az (Int.tmod u 2001) ((Int.tmod u 2001)+(Int.tmod w 600))) (BL.okQ O E (ai A B I J f O E 0) (ai A B I J f O E 1) (ai A B I J f O E 2) (ai A B I J f O E 3) (ai A B I J f O E 4) (ai A B I J f O E 5) (aj A B I J f O E 0) (aj A B I J f O E 1) (aj A B I J f O E 2) (aj A B I J f O E 3) (aj A B I J f O E 4) (aj A B I J f O E 5) lo hi) false) false) false) false) false)=true∧((cond (cond (cond (aJ .i64 (ae .i64 B) A 1) (cond (aJ .i64 (ae .i64 J) I 1) (cond (cond true (dX 2 (aQ 2 1 M f) n 1) false) (cond (aJ .i64 (ae .i64 E) O 5) true false) false) false) false) true false) (cond (Nat.ble 1 O) (cond (Nat.ble O 6) (cond (az 0 b) (az b 255) false) false) false) false)=true∧((cond (cond (cond (aJ .i64 (ae .i64 B) A 1) (cond (aJ .i64 (ae .i64 J) I 1) (cond (cond true (dX 2 (aQ 2 1 M f) n 1) false) (cond (aJ .i64 (ae .i64 E) O 5) true false) false) false) false) true false) (cond (gQ A I n M) (Nat.ble O 9) false) false)=true∧((Nat.ble (BL.soN O b) 1048576)=true∧((cond (cond (cond (aJ .i64 (ae .i64 B) A 1) (cond (aJ .i64 (ae .i64 J) I 1) (cond (cond true (dX 16 (aQ 16 1 M f) n 1) false) (cond (aJ .i64 (ae .i64 E) O 5) true false) false) false) false) (cond (aJ .i64 (ae .i64 (BL.soF O b)) (BL.soN O b) 1) true false) false) (cond (lD A I n M) (cond (Nat.ble O 1000) (Nat.ble (BL.soN O b) 1000) false) false) false)=true∧((not (cu (BL.fwE O lo hi (Int.tmod u 2001) ((Int.tmod u 2001)+(Int.tmod w 600))) 0))=false∧((cond (cond (cond (aJ .i64 (ae .i64 B) A 1) (cond (aJ .i64 (ae .i64 J) I 1) (cond (cond true (dX 2 (aQ 2 1 M f) n 1) false) (cond (aJ .i64 (ae .i64 E) O 5) true false) false) false) false) true false) (cond (gQ A I n M) (Nat.ble O 9) false) false)=true∧((Nat.ble (BL.fwN O lo hi (Int.tmod u 2001) ((Int.tmod u 2001)+(Int.tmod w 600))) 1048576)=true∧((cond (cond (cond (aJ .i64 (ae .i64 B) A 1) (cond (aJ .i64 (ae .i64 J) I 1) (cond (cond true (dX 20 (aQ 20 1 M f) n 1) false) (cond (aJ .i64 (ae .i64 E) O 5) true false) false) false) false) (cond (aJ .i64 (ae .i64 (BL.fwF O lo hi (Int.tmod u 2001) ((Int.tmod u 2001)+(Int.tmod w 600)))) (BL.fwN O lo hi (Int.tmod u 2001) ((Int.tmod u 2001)+(Int.tmod w 600))) 1) true false) false) (cond (lD A I n M) (cond (Nat.ble O 1000) (Nat.ble (BL.fwN O lo hi (Int.tmod u 2001) ((Int.tmod u 2001)+(Int.tmod w 600))) 1000) false) false) false)=true∧((BL.pvB A B I J n M f r O E (BL.fwN O lo hi (Int.tmod u 2001) ((Int.tmod u 2001)+(Int.tmod w 600))) (BL.fwF O lo hi (Int.tmod u 2001) ((Int.tmod u 2001)+(Int.tmod w 600))) 0 (Int.tmod u 2001) ((Int.tmod u 2001)+(Int.tmod w 600)))=true∧((BL.pvB A B I J n M f r O E (BL.soN O b) (BL.soF O b) 0 (Int.tmod u 2001) ((Int.tmod u 2001)+(Int.tmod w 600)))=true∧((cond (cond (aJ .i64 (ae .i64 (BL.soF O b)) (BL.soN O b) 1) (cond (aJ .i64 (ae .i64 (BL.fwF O lo hi (Int.tmod u 2001) ((Int.tmod u 2001)+(Int.tmod w 600)))) (BL.fwN O lo hi (Int.tmod u 2001) ((Int.tmod u 2001)+(Int.tmod w 600))) 1) true false) false) (cond (Nat.ble (BL.soN O b) 1000) (Nat.ble (BL.fwN O lo hi (Int.tmod u 2001) ((Int.tmod u 2001)+(Int.tmod w 600))) 1000) false) false)=true∧((not (BL.shV (BL.soN O b) (BL.soF O b) (BL.fwN O lo hi (Int.tmod u 2001) ((Int.tmod u 2001)+(Int.tmod w 600))) (BL.fwF O lo hi (Int.tmod u 2001) ((Int.tmod u 2001)+(Int.tmod w 600)))))=true∧(true=true))))))))))))))))))))))))))
end
end BL
end Go.Proofs.YtiplgejpopellaaGreat
