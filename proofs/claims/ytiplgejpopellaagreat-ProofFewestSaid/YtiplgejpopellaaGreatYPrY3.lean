/- Casks: the first list of casks that is good is no longer than any that is. -/
import Derived.Test.YtiplgejpopellaaGreatYPrY2
set_option linter.all false
set_option linter.unusedSimpArgs false
set_option linter.unusedVariables false
namespace Go.Proofs.YtiplgejpopellaaGreat
namespace BL
open Go Go.Ev
set_option maxRecDepth 1000000
noncomputable section
def BJ (x y:Nat):Bool:=pG (aC (Int.ofNat x)) (aH (Int.ofNat x)) (aC (Int.ofNat y)) (aH (Int.ofNat y))
def allL (p:Nat→Bool) (l:List Nat):Bool:=List.rec (motive:=fun _=>Bool) true (fun x _ ih=>cond (p x) ih false) l
def uX (l:List Nat):Bool:=List.rec (motive:=fun _=>Bool) true (fun y t ih=>cond (allL (fun x=>cond (BJ x y) false true) (y::t)) ih false) l
def nR (x:Nat) (l:List Nat):Bool:=List.rec (motive:=fun _=>Bool) false (fun y _ ih=>cond (Nat.beq y x) true ih) l
theorem AV {p:Nat→Bool}:∀ {l:List Nat},allL p l=true→∀ x∈l,p x=true
 | [],_,x,hx=>by cases hx
 | y::l,h,x,hx=>by
  obtain ⟨h1,h2⟩:=ah (show cond (p y) (allL p l) false=true from h)
  rcases List.mem_cons.1 hx with rfl | hx
  ·exact h1
  ·exact AV h2 x hx
theorem Je {x:Nat}:∀ {l:List Nat},nR x l=true→x∈l
 | [],h=>by cases h
 | y::l,h=>by
  have h:cond (Nat.beq y x) true (nR x l)=true:=h
  cases e:Nat.beq y x with
  | true=>exact List.mem_cons.2 (.inl (nb e).symm)
  | false=>rw [e] at h;exact List.mem_cons.2 (.inr (Je h))
theorem I8 {p:Nat→Bool}:∀ {l:List Nat},(∀ x∈l,x≠0)→y9 p l=0→∀ x∈l,p x=false
 | [],_,_,x,hx=>by cases hx
 | y::l,h0,h,x,hx=>by
  have h:cond (p y) y (y9 p l)=0:=h
  cases e:p y with
  | true=>rw [e] at h;exact absurd h (h0 y List.mem_cons_self)
  | false =>
   rw [e] at h
   rcases List.mem_cons.1 hx with rfl | hx
   ·exact e
   ·exact I8 (fun x hx=>h0 x (List.mem_cons_of_mem _ hx)) h x hx
theorem Dt {p:Nat→Bool}:∀ {l:List Nat},uX l=true→y9 p l≠0→y9 p l∈l∧p (y9 p l)=true∧∀ x∈l,p x=true→BJ x (y9 p l)=false
 | [],_,h=>absurd rfl h
 | y::l,ho,h=>by
  obtain ⟨o1,o2⟩:=ah (show cond (allL (fun x=>cond (BJ x y) false true) (y::l)) (uX l) false=true from ho)
  have e0:y9 p (y::l)=cond (p y) y (y9 p l):=rfl
  rw [e0] at h ⊢
  cases e:p y with
  | true =>
   refine ⟨List.mem_cons_self,e,fun x hx _=>?_⟩
   have q:=AV o1 x hx
   show BJ x y=false
   cases z:BJ x y with
   | true=>rw [z] at q;cases q
   | false=>rfl
  | false =>
   rw [e] at h
   have h:y9 p l≠0:=h
   obtain ⟨k1,k2,k3⟩:=Dt o2 h
   refine ⟨List.mem_cons_of_mem _ k1,k2,fun x hx hp=>?_⟩
   rcases List.mem_cons.1 hx with rfl | hx
   ·rw [e] at hp;cases hp
   ·exact k3 x hx hp
theorem ade:uX (kN 1)=true:=by kernel_rfl
theorem mem1:eX (fun x=>cond (Nat.beq x 0) true (nR x (kN 1))) 2=true:=by kernel_rfl
theorem acN:allL (fun x=>cond (Nat.blt 0 x) (Nat.blt x 2) false) (kN 1)=true:=by kernel_rfl
theorem acC:uX (kN 2)=true:=by kernel_rfl
theorem mem2:eX (fun x=>cond (Nat.beq x 0) true (nR x (kN 2))) 4=true:=by kernel_rfl
theorem adz:allL (fun x=>cond (Nat.blt 0 x) (Nat.blt x 4) false) (kN 2)=true:=by kernel_rfl
theorem adf:uX (kN 3)=true:=by kernel_rfl
theorem mem3:eX (fun x=>cond (Nat.beq x 0) true (nR x (kN 3))) 8=true:=by kernel_rfl
theorem acX:allL (fun x=>cond (Nat.blt 0 x) (Nat.blt x 8) false) (kN 3)=true:=by kernel_rfl
theorem adc:uX (kN 4)=true:=by kernel_rfl
theorem acs:eX (fun x=>cond (Nat.beq x 0) true (nR x (kN 4))) 16=true:=by kernel_rfl
theorem acM:allL (fun x=>cond (Nat.blt 0 x) (Nat.blt x 16) false) (kN 4)=true:=by kernel_rfl
theorem acR:uX (kN 5)=true:=by kernel_rfl
theorem adi:eX (fun x=>cond (Nat.beq x 0) true (nR x (kN 5))) 32=true:=by kernel_rfl
theorem ad2:allL (fun x=>cond (Nat.blt 0 x) (Nat.blt x 32) false) (kN 5)=true:=by kernel_rfl
theorem ady:uX (kN 6)=true:=by kernel_rfl
theorem acl:eX (fun x=>cond (Nat.beq x 0) true (nR x (kN 6))) 64=true:=by kernel_rfl
theorem adn:allL (fun x=>cond (Nat.blt 0 x) (Nat.blt x 64) false) (kN 6)=true:=by kernel_rfl
theorem abh:eX (fun x=>cond (Nat.beq x 0) true (cond (Nat.blt 0 (aC (Int.ofNat x))) (Nat.ble (aC (Int.ofNat x)) 6) false)) 64=true:=by kernel_rfl
theorem ZL {O:Nat} (h1:1≤O) (h2:O≤6):uX (kN O)=true:=by
 rcases (show O=1∨O=2∨O=3∨O=4∨O=5∨O=6 by omega) with rfl | rfl | rfl | rfl | rfl | rfl
 ·exact ade
 ·exact acC
 ·exact adf
 ·exact adc
 ·exact acR
 ·exact ady
theorem NV {O x:Nat} (h1:1≤O) (h2:O≤6) (h0:0<x) (hx:x<Nat.pow 2 O):x∈kN O:=by
 have k:∀ {m:Nat} {l:List Nat},eX (fun x=>cond (Nat.beq x 0) true (nR x l)) m=true→x<m→x∈l:=fun h hx=>by
  have q:=aX h x hx
  rw [(dX x 0).mpr (by omega)] at q
  exact Je q
 rcases (show O=1∨O=2∨O=3∨O=4∨O=5∨O=6 by omega) with rfl | rfl | rfl | rfl | rfl | rfl
 ·exact k mem1 hx
 ·exact k mem2 hx
 ·exact k mem3 hx
 ·exact k acs hx
 ·exact k adi hx
 ·exact k acl hx
theorem OB {O x:Nat} (h1:1≤O) (h2:O≤6) (h:x∈kN O):0<x∧x<Nat.pow 2 O:=by
 have k:∀ {m:Nat} {l:List Nat},allL (fun x=>cond (Nat.blt 0 x) (Nat.blt x m) false) l=true→x∈l→0<x∧x<m:=fun h hx=>by
  obtain ⟨a,b⟩:=ah (AV h x hx)
  exact ⟨bZ a,bZ b⟩
 rcases (show O=1∨O=2∨O=3∨O=4∨O=5∨O=6 by omega) with rfl | rfl | rfl | rfl | rfl | rfl
 ·exact k acN h
 ·exact k adz h
 ·exact k acX h
 ·exact k acM h
 ·exact k ad2 h
 ·exact k adn h
theorem E5 {O:Nat} (h2:O≤6):Nat.pow 2 O≤64:=by
 have:2^O≤2^6:=Nat.pow_le_pow_right (by omega) h2
 exact this
theorem Vr {x:Nat} (h0:0<x) (hx:x<64):0<aC (Int.ofNat x)∧aC (Int.ofNat x)≤6:=by
 have q:=aX abh x hx
 rw [(dX x 0).mpr (by omega)] at q
 obtain ⟨a,b⟩:=ah (show cond (Nat.blt 0 (aC (Int.ofNat x))) (Nat.ble (aC (Int.ofNat x)) 6) false=true from q)
 exact ⟨bZ a,Nat.le_of_ble_eq_true b⟩
theorem X6 {O x:Nat} (h1:1≤O) (h2:O≤6) (h0:0<x) (hx:x<Nat.pow 2 O):hbB O (aH (Int.ofNat x)) (aC (Int.ofNat x))=true:=by
 have hp:=Vr h0 (Nat.lt_of_lt_of_le hx (E5 h2))
 have key:chk O x=true:=by
  rcases (show O=1∨O=2∨O=3∨O=4∨O=5∨O=6 by omega) with rfl | rfl | rfl | rfl | rfl | rfl
  ·exact aX acF x hx
  ·exact aX acJ x hx
  ·exact aX ad4 x hx
  ·exact aX adS x hx
  ·exact aX adV x hx
  ·exact aX acw x hx
 unfold chk at key
 rw [(dX _ _).mpr (show ¬ aC (Int.ofNat x)=0 by omega)] at key
 exact key
def qL (A:Nat) (B:Nat→Nat→Int) (I:Nat) (J:Nat→Nat→Int) (n:Nat) (M:Nat→Nat) (f:Nat→Nat→Nat→Int) (r:Int) (O:Nat) (E:Nat→Nat→Int) (x:Nat):Int:=blV E (aH (Int.ofNat x)) 0 (jG A B I J f O E 0) (jG A B I J f O E 1) (jG A B I J f O E 2) (jG A B I J f O E 3) (jG A B I J f O E 4) (jG A B I J f O E 5) (aC (Int.ofNat x))
def qH (A:Nat) (B:Nat→Nat→Int) (I:Nat) (J:Nat→Nat→Int) (n:Nat) (M:Nat→Nat) (f:Nat→Nat→Nat→Int) (r:Int) (O:Nat) (E:Nat→Nat→Int) (x:Nat):Int:=blV E (aH (Int.ofNat x)) 0 (jo A B I J f O E 0) (jo A B I J f O E 1) (jo A B I J f O E 2) (jo A B I J f O E 3) (jo A B I J f O E 4) (jo A B I J f O E 5) (aC (Int.ofNat x))
theorem aca (A:Nat) (B:Nat→Nat→Int) (I:Nat) (J:Nat→Nat→Int) (n:Nat) (M:Nat→Nat) (f:Nat→Nat→Nat→Int) (r:Int) (O:Nat) (E:Nat→Nat→Int) (hc:gW A B I J n M f r O E=0) (h1:1≤O) (h2:O≤6):okQ O E (jG A B I J f O E 0) (jG A B I J f O E 1) (jG A B I J f O E 2) (jG A B I J f O E 3) (jG A B I J f O E 4) (jG A B I J f O E 5) (jo A B I J f O E 0) (jo A B I J f O E 1) (jo A B I J f O E 2) (jo A B I J f O E 3) (jo A B I J f O E 4) (jo A B I J f O E 5) (qL A B I J n M f r O E) (qH A B I J n M f r O E)=true:=by
 have ok:=FW A B I J n M f r O E hc
 refine @decide_eq_true _ (Classical.propDecidable _) fun x x0 x1=>?_
 have hb:=X6 h1 h2 x0 x1
 have hn:=Vr x0 (Nat.lt_of_lt_of_le x1 (E5 h2))
 exact ⟨Yb A B I J n M f r O E _ _ _ ok (aak A B I J n M f r O E ok) hb (by omega) (Int.le_refl _) (by decide),Yb A B I J n M f r O E _ _ _ ok (abL A B I J n M f r O E ok) hb (by omega) (Int.le_refl _) (by decide),rfl,rfl⟩
end
end BL
end Go.Proofs.YtiplgejpopellaaGreat
