/- Casks: ProofShortest: the law's run. -/
import Derived.Test.YtiplgejpopellaaGreatYPrY5
import Derived.Test.YtiplgejpopellaaGreatYPrY6
import Derived.Test.YtiplgejpopellaaGreatYPrAw
set_option linter.all false
set_option linter.unusedSimpArgs false
set_option linter.unusedVariables false
namespace Go.Proofs.YtiplgejpopellaaGreat
namespace BL
open Go Go.Ev
set_option maxRecDepth 1000000
set_option maxHeartbeats 0
noncomputable section
variable (A:Nat) (B:Nat→Nat→Int) (I:Nat) (J:Nat→Nat→Int) (n:Nat) (M:Nat→Nat) (f:Nat→Nat→Nat→Int)
def fwC (A:Nat) (B:Nat→Nat→Int) (I:Nat) (J:Nat→Nat→Int) (n:Nat) (M:Nat→Nat) (f:Nat→Nat→Nat→Int) (r:Int) (O:Nat) (E:Nat→Nat→Int) (lo hi:Nat→Int) (a b:Int):Bool:=cond (oQ A I n M) (cond (bY (gW A B I J n M f r O E) 0) (cond (Nat.ble 1 O) (cond (ak a b) (okQ O E (jG A B I J f O E 0) (jG A B I J f O E 1) (jG A B I J f O E 2) (jG A B I J f O E 3) (jG A B I J f O E 4) (jG A B I J f O E 5) (jo A B I J f O E 0) (jo A B I J f O E 1) (jo A B I J f O E 2) (jo A B I J f O E 3) (jo A B I J f O E 4) (jo A B I J f O E 5) lo hi) false) false) false) false
def fwN (O:Nat) (lo hi:Nat→Int) (a b:Int):Nat:=aC (Int.ofNat (uu O lo hi a b))
def fwF (O:Nat) (lo hi:Nat→Int) (a b:Int):Nat→Nat→Int:=aH (Int.ofNat (uu O lo hi a b))
def fwT (O:Nat) (lo hi:Nat→Int) (a b:Int):SV := .tup [.one (.new (.sl 1 (fwN O lo hi a b) (fwF O lo hi a b))),.one (.new (.i .i64 (dL O lo hi a b)))]
def Yw (lo hi:Nat→Int):Cf:=fun das=>match das with | [.st [.sl 1 A B,.sl 1 I J,.rr 1 n M f,.i .i64 r,.sl 5 O E],.st [.i .i64 a,.i .i64 b]]=>some (fwC A B I J n M f r O E lo hi a b,fwT O lo hi a b) | _=>none
theorem Z9 (lo hi:Nat→Int):Jj Tryz.prog 8 (Yw lo hi):=by
 intro das v hv
 unfold Yw at hv
 split at hv
 ·rename_i A B I J n M f r O E a b
  have hb:=congrArg Prod.fst (Option.some.inj hv)
  have hv:=congrArg Prod.snd (Option.some.inj hv)
  subst hv
  obtain ⟨hs,hb⟩:=ah hb
  obtain ⟨hc,hb⟩:=ah hb
  obtain ⟨h1,hb⟩:=ah hb
  obtain ⟨hab,hq⟩:=ah hb
  have hc:=(dQ _ _).mp hc
  have hab:=(aW _ _).mp hab
  have h1:=Nat.le_of_ble_eq_true h1
  obtain ⟨c1,c2,c3⟩:=F6 A B I J n M f r O E hc
  have:O=1∨O=2∨O=3∨O=4∨O=5∨O=6:=by omega
  rcases this with rfl | rfl | rfl | rfl | rfl | rfl
  ·exact aY aj (wO lo hi) (fw1 A B I J n M f r E lo hi a b hs hc c1 c3 hab hq)
  ·exact aY aj (wO lo hi) (fw2 A B I J n M f r E lo hi a b hs hc c1 c3 hab hq)
  ·exact aY aj (wO lo hi) (fw3 A B I J n M f r E lo hi a b hs hc c1 c3 hab hq)
  ·exact aY aj (wO lo hi) (fw4 A B I J n M f r E lo hi a b hs hc c1 c3 hab hq)
  ·exact aY aj (wO lo hi) (fw5 A B I J n M f r E lo hi a b hs hc c1 c3 hab hq)
  ·exact aY aj (wO lo hi) (fw6 A B I J n M f r E lo hi a b hs hc c1 c3 hab hq)
 ·cases hv
def ltB:LT:=⟨[0,1,5],[0,1],[4],3⟩
def sB (m:Nat) (g:Nat→Nat→Int) (k:Nat) (h:Nat→Nat→Int) (i:Nat):LS:=⟨[.fz true 0 (ae .i64 g) m 1,.fz true 1 (ae .i64 h) k 1,.int .i64 i],[]⟩
def xB (m:Nat) (g:Nat→Nat→Int) (k:Nat) (h:Nat→Nat→Int):Lv := .exit 0 ⟨[.fz true 0 (ae .i64 g) m 1,.fz true 1 (ae .i64 h) k 1],[]⟩
def bB:Code:=sub [1,0,1,0,0] (cZ Tryz.prog 39)
theorem eB (m:Nat) (g:Nat→Nat→Int) (k:Nat) (h:Nat→Nat→Int):VC (ql Tryz.prog az 300 39 [1,0,1,0] [.one (.sl 1 m g),.one (.sl 1 k h)] (aU 3) ltB 41 60 (sB m g k h 0)) .nil:=ai ((True∧(((((V.fz true 0 (ae .i64 g) m 1):V)=(V.fz true 0 (ae .i64 g) m 1))∧((((V.fz true 1 (ae .i64 h) k 1):V)=(V.fz true 1 (ae .i64 h) k 1))∧((((0):Int)=0)∧True)))∧True)))
theorem rB1 (m:Nat) (g:Nat→Nat→Int) (k:Nat) (h:Nat→Nat→Int) (i:Nat) (h1:i<m) (h2:i<k) (h3:m≤1000) (h4:k≤1000) (h5:g i 0=h i 0):VC (bM Tryz.prog az 300 bB (aU 3) ltB 41 60 (sB m g k h i) (.next (sB m g k h (i+1)))) (.go 1463297 .nil):=ai (((not (ak (m:Int) (i:Int)))=true∧((not (ak (k:Int) (i:Int)))=true∧((Nat.blt i m)=true∧((Nat.blt i k)=true∧((not (bY (g i 0) (h i 0)))=false∧((small ((i:Int)+1))=true∧(((((V.fz true 0 (ae .i64 g) m 1):V)=(V.fz true 0 (ae .i64 g) m 1))∧((((V.fz true 1 (ae .i64 h) k 1):V)=(V.fz true 1 (ae .i64 h) k 1))∧(((((i:Int)+1):Int)=(((i+1):Nat):Int))∧True)))∧True))))))))
theorem rB2 (m:Nat) (g:Nat→Nat→Int) (k:Nat) (h:Nat→Nat→Int) (i:Nat) (h1:i<m) (h2:i<k) (h3:m≤1000) (h4:k≤1000) (h5:g i 0<h i 0):VC (bM Tryz.prog az 300 bB (aU 3) ltB 41 60 (sB m g k h i) (.ret ⟨[.bool true],[]⟩)) (.go 5592065 .nil):=ai (((not (ak (m:Int) (i:Int)))=true∧((not (ak (k:Int) (i:Int)))=true∧((Nat.blt i m)=true∧((Nat.blt i k)=true∧((not (bY (g i 0) (h i 0)))=true∧((Nat.blt i m)=true∧((Nat.blt i k)=true∧((((not (ak (h i 0) (g i 0)))=true)∧True)∧True)))))))))
theorem rB3 (m:Nat) (g:Nat→Nat→Int) (k:Nat) (h:Nat→Nat→Int) (i:Nat) (h1:i<m) (h2:i<k) (h3:m≤1000) (h4:k≤1000) (h5:h i 0<g i 0):VC (bM Tryz.prog az 300 bB (aU 3) ltB 41 60 (sB m g k h i) (.ret ⟨[.bool false],[]⟩)) (.go 5592065 .nil):=ai (((not (ak (m:Int) (i:Int)))=true∧((not (ak (k:Int) (i:Int)))=true∧((Nat.blt i m)=true∧((Nat.blt i k)=true∧((not (bY (g i 0) (h i 0)))=true∧((Nat.blt i m)=true∧((Nat.blt i k)=true∧((((not (ak (h i 0) (g i 0)))=false)∧True)∧True)))))))))
theorem rB4 (m:Nat) (g:Nat→Nat→Int) (k:Nat) (h:Nat→Nat→Int) (i:Nat) (h1:¬ i<m):VC (bM Tryz.prog az 300 bB (aU 3) ltB 41 60 (sB m g k h i) (xB m g k h)) (.go 6 .nil):=ai (((not (ak (m:Int) (i:Int)))=false∧(((((V.fz true 0 (ae .i64 g) m 1):V)=(V.fz true 0 (ae .i64 g) m 1))∧((((V.fz true 1 (ae .i64 h) k 1):V)=(V.fz true 1 (ae .i64 h) k 1))∧True))∧True)))
theorem rB5 (m:Nat) (g:Nat→Nat→Int) (k:Nat) (h:Nat→Nat→Int) (i:Nat) (h1:i<m) (h2:¬ i<k):VC (bM Tryz.prog az 300 bB (aU 3) ltB 41 60 (sB m g k h i) (xB m g k h)) (.go 6145 .nil):=ai (((not (ak (m:Int) (i:Int)))=true∧((not (ak (k:Int) (i:Int)))=false∧(((((V.fz true 0 (ae .i64 g) m 1):V)=(V.fz true 0 (ae .i64 g) m 1))∧((((V.fz true 1 (ae .i64 h) k 1):V)=(V.fz true 1 (ae .i64 h) k 1))∧True))∧True))))
theorem fB1  : VC (fromD Tryz.prog az 300 39 [1,0,1,0] (Lv.res ltB 41 (iw (aU 3) ltB 60 (.ret ⟨[.bool true],[]⟩)) (.ret ⟨[.bool true],[]⟩)) (.bool true)) .nil:=ai ((true=true))
theorem fB2  : VC (fromD Tryz.prog az 300 39 [1,0,1,0] (Lv.res ltB 41 (iw (aU 3) ltB 60 (.ret ⟨[.bool false],[]⟩)) (.ret ⟨[.bool false],[]⟩)) (.bool false)) .nil:=ai ((false=false))
theorem fB3 (m:Nat) (g:Nat→Nat→Int) (k:Nat) (h:Nat→Nat→Int) (q:m<k):VC (fromD Tryz.prog az 300 39 [1,0,1,0] (Lv.res ltB 41 (iw (aU 3) ltB 60 (xB m g k h)) (xB m g k h)) (.bool true)) .nil:=ai (((not (ak (k:Int) (m:Int)))=true))
theorem fB4 (m:Nat) (g:Nat→Nat→Int) (k:Nat) (h:Nat→Nat→Int) (q:¬ m<k):VC (fromD Tryz.prog az 300 39 [1,0,1,0] (Lv.res ltB 41 (iw (aU 3) ltB 60 (xB m g k h)) (xB m g k h)) (.bool false)) .nil:=ai (((not (ak (k:Int) (m:Int)))=false))
def bfR (g h:Nat→Nat→Int) (t:Bool) (d:Nat):Nat→Bool:=Nat.rec (motive:=fun _=>Nat→Bool) (fun _=>t) (fun _ ih i=>cond (bY (g i 0) (h i 0)) (ih (Nat.succ i)) (cond (ak (h i 0) (g i 0)) false true)) d
def BK (m:Nat) (g:Nat→Nat→Int) (k:Nat) (h:Nat→Nat→Int):Bool:=bfR g h (Nat.blt m k) (cond (Nat.ble m k) m k) 0
def pG (m:Nat) (g:Nat→Nat→Int) (k:Nat) (h:Nat→Nat→Int):Bool:=cond (Nat.blt m k) true (cond (Nat.beq m k) (BK m g k h) false)
def JK:Val:=fun das=>match das with | [.one (.sl 1 m g),.one (.sl 1 k h)]=>some (cond (Nat.ble m 1000) (Nat.ble k 1000) false,.bool (BK m g k h)) | _=>none
theorem Fv {g h:Nat→Nat→Int} {t:Bool}:∀ (d i:Nat),(∀ j,i≤j→j<i+d→g j 0=h j 0)→bfR g h t d i=t
 | 0,_,_=>rfl
 | d+1,i,q=>by
  show cond (bY (g i 0) (h i 0)) (bfR g h t d (i+1)) _=t
  rw [(dQ _ _).mpr (q i (Nat.le_refl i) (by omega))]
  exact Fv d (i+1) fun j h1 h2=>q j (by omega) (by omega)
theorem OD {g h:Nat→Nat→Int} {t:Bool} {N:Nat} (hn:¬ g N 0=h N 0):∀ (d i:Nat),i≤N→N<i+d→(∀ j,i≤j→j<N→g j 0=h j 0)→bfR g h t d i=cond (ak (h N 0) (g N 0)) false true
 | 0,_,h1,h2,_=>by omega
 | d+1,i,h1,h2,q=>by
  show cond (bY (g i 0) (h i 0)) (bfR g h t d (i+1)) _=_
  by_cases e:i=N
  ·subst e;rw [(fD _ _).mpr hn];rfl
  ·rw [(dQ _ _).mpr (q i (Nat.le_refl i) (by omega))]
   exact OD hn d (i+1) (by omega) (by omega) fun j h3 h4=>q j (by omega) h4
def eqB (g h:Nat→Nat→Int) (i:Nat):Bool:=decide (g i 0=h i 0)
theorem Zt:qi Tryz.prog 39 JK:=by
 intro das v hv
 unfold JK at hv
 split at hv
 ·rename_i m g k h
  have hb:=congrArg Prod.fst (Option.some.inj hv)
  have hv:=congrArg Prod.snd (Option.some.inj hv)
  subst hv
  obtain ⟨hm,hk⟩:=ah hb
  have hm:=Nat.le_of_ble_eq_true hm
  have hk:=Nat.le_of_ble_eq_true hk
  have hd:cond (Nat.ble m k) m k≤m∧cond (Nat.ble m k) m k≤k∧(cond (Nat.ble m k) m k=m∨cond (Nat.ble m k) m k=k):=by
   by_cases h:m≤k
   ·rw [dV h];exact ⟨Nat.le_refl m,h,.inl rfl⟩
   ·rw [show Nat.ble m k=false by rw [gZ];omega];exact ⟨by show k≤m;omega,Nat.le_refl k,.inr rfl⟩
  refine ⟨rfl,?_⟩
  unfold BK
  generalize hD:cond (Nat.ble m k) m k=d at hd
  have nx:∀ i,i<d→g i 0=h i 0→JL Tryz.prog (aU 3) ltB 41 60 none bB (sB m g k h i) (.next (sB m g k h (i+1))):=fun i hi q=>aP aj aG (rB1 m g k h i (by omega) (by omega) hm hk q).ok (by kernel_rfl) (by kernel_rfl)
  rcases gu (eqB g h) d with q | ⟨N,q1,q2,q3⟩
  ·have q:∀ i,i<d→g i 0=h i 0:=fun i hi=>of_decide_eq_true (q i hi)
   rw [Fv d 0 fun j _ h2=>q j (by omega)]
   have ex:JL Tryz.prog (aU 3) ltB 41 60 none bB (sB m g k h d) (xB m g k h):=by
    by_cases e:d<m
    ·exact aP aj aG (rB5 m g k h d e (by omega)).ok (by kernel_rfl) (by kernel_rfl)
    ·exact aP aj aG (rB4 m g k h d e).ok (by kernel_rfl) (by kernel_rfl)
   by_cases mk:m<k
   ·rw [wW mk]
    exact bV aj aG (das:=[.one (.sl 1 m g),.one (.sl 1 k h)]) (lv:=xB m g k h) (by kernel_rfl) (by kernel_rfl) (eB m g k h).ok (bz (body:=bB) (fun _ e=>by cases e) d (sB m g k h) (fun i hi=>nx i hi (q i hi)) ex) (fB3 m g k h mk).ok
   ·rw [FD mk]
    exact bV aj aG (das:=[.one (.sl 1 m g),.one (.sl 1 k h)]) (lv:=xB m g k h) (by kernel_rfl) (by kernel_rfl) (eB m g k h).ok (bz (body:=bB) (fun _ e=>by cases e) d (sB m g k h) (fun i hi=>nx i hi (q i hi)) ex) (fB4 m g k h mk).ok
  ·have q2:∀ i,i<N→g i 0=h i 0:=fun i hi=>of_decide_eq_true (q2 i hi)
   have q3:¬ g N 0=h N 0:=of_decide_eq_false q3
   rw [OD q3 d 0 (Nat.zero_le N) (by omega) fun j _ h2=>q2 j h2]
   by_cases lt:g N 0<h N 0
   ·rw [(dY _ _).mpr (by omega)]
    exact bV aj aG (das:=[.one (.sl 1 m g),.one (.sl 1 k h)]) (lv := .ret ⟨[.bool true],[]⟩) (by kernel_rfl) (by kernel_rfl) (eB m g k h).ok (bz (body:=bB) (fun _ e=>by cases e) N (sB m g k h) (fun i hi=>nx i (by omega) (q2 i hi)) (aP aj aG (rB2 m g k h N (by omega) (by omega) hm hk lt).ok (by kernel_rfl) (by kernel_rfl))) fB1.ok
   ·rw [(aW _ _).mpr (by omega)]
    exact bV aj aG (das:=[.one (.sl 1 m g),.one (.sl 1 k h)]) (lv := .ret ⟨[.bool false],[]⟩) (by kernel_rfl) (by kernel_rfl) (eB m g k h).ok (bz (body:=bB) (fun _ e=>by cases e) N (sB m g k h) (fun i hi=>nx i (by omega) (q2 i hi)) (aP aj aG (rB3 m g k h N (by omega) (by omega) hm hk (by omega)).ok (by kernel_rfl) (by kernel_rfl))) fB2.ok
 ·cases hv
def XSh:Ext:=jO [(39,cf JK)] false
theorem ut:dM Tryz.prog XSh:=dW (aA (dR Zt) bK)
theorem sh1 (m:Nat) (g:Nat→Nat→Int) (k:Nat) (h:Nat→Nat→Int) (h3:m≤1000) (h4:k≤1000) (q:m<k):VC (dh Tryz.prog XSh 300 22 (enc [.one (.sl 1 m g),.one (.sl 1 k h)] 0) 2 (fun v=>dB v (.bool true))) (.go 5 .nil):=ai (((not (ak (k:Int) (m:Int)))=true∧(true=true)))
theorem sh2 (m:Nat) (g:Nat→Nat→Int) (k:Nat) (h:Nat→Nat→Int) (h3:m≤1000) (h4:k≤1000) (q:m=k):VC (dh Tryz.prog XSh 300 22 (enc [.one (.sl 1 m g),.one (.sl 1 k h)] 0) 2 (fun v=>dB v (.bool (BK m g k h)))) (.go 1314818 .nil):=ai (((not (ak (k:Int) (m:Int)))=false∧((bY (m:Int) (k:Int))=true∧((cond (cond (ay .i64 (ae .i64 g) m 1) (cond (ay .i64 (ae .i64 h) k 1) true false) false) (cond (Nat.ble m 1000) (Nat.ble k 1000) false) false)=true∧((BK m g k h)=(BK m g k h))))))
theorem sh3 (m:Nat) (g:Nat→Nat→Int) (k:Nat) (h:Nat→Nat→Int) (h3:m≤1000) (h4:k≤1000) (q:k<m):VC (dh Tryz.prog XSh 300 22 (enc [.one (.sl 1 m g),.one (.sl 1 k h)] 0) 2 (fun v=>dB v (.bool false))) (.go 24578 .nil):=ai (((not (ak (k:Int) (m:Int)))=false∧((bY (m:Int) (k:Int))=false∧(false=false))))
def VY:Val:=fun das=>match das with | [.one (.sl 1 m g),.one (.sl 1 k h)]=>some (cond (Nat.ble m 1000) (Nat.ble k 1000) false,.bool (pG m g k h)) | _=>none
theorem abe:qi Tryz.prog 22 VY:=by
 intro das v hv
 unfold VY at hv
 split at hv
 ·rename_i m g k h
  have hb:=congrArg Prod.fst (Option.some.inj hv)
  have hv:=congrArg Prod.snd (Option.some.inj hv)
  subst hv
  obtain ⟨hm,hk⟩:=ah hb
  have hm:=Nat.le_of_ble_eq_true hm
  have hk:=Nat.le_of_ble_eq_true hk
  unfold pG
  by_cases q:m<k
  ·rw [wW q]
   exact bn aj ut rfl (das:=[.one (.sl 1 m g),.one (.sl 1 k h)]) (sh1 m g k h hm hk q)
  ·rw [FD q]
   by_cases e:m=k
   ·rw [(ig _ _).mpr e]
    exact bn aj ut rfl (das:=[.one (.sl 1 m g),.one (.sl 1 k h)]) (sh2 m g k h hm hk e)
   ·rw [(dX _ _).mpr e]
    exact bn aj ut rfl (das:=[.one (.sl 1 m g),.one (.sl 1 k h)]) (sh3 m g k h hm hk (by omega))
 ·cases hv
end
end BL
end Go.Proofs.YtiplgejpopellaaGreat
