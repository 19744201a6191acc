/- Casks: the first list of casks that is good is no longer than any that is. -/
import Derived.Test.YtiplgejpopellaaGreatYPrY2
set_option linter.all false
set_option linter.unusedSimpArgs false
set_option linter.unusedVariables false
namespace Go.Proofs.YtiplgejpopellaaGreat
namespace BL
open Go Go.Ev
set_option maxRecDepth 1000000
noncomputable section
def shx (x y:Nat):Bool:=shV (biN (Int.ofNat x)) (biF (Int.ofNat x)) (biN (Int.ofNat y)) (biF (Int.ofNat y))
def allL (p:Nat→Bool) (l:List Nat):Bool:=List.rec (motive:=fun _=>Bool) true (fun x _ ih=>cond (p x) ih false) l
def tY (l:List Nat):Bool:=List.rec (motive:=fun _=>Bool) true (fun y t ih=>cond (allL (fun x=>cond (shx x y) false true) (y::t)) ih false) l
def lU (x:Nat) (l:List Nat):Bool:=List.rec (motive:=fun _=>Bool) false (fun y _ ih=>cond (Nat.beq y x) true ih) l
theorem yZ {p:Nat→Bool}:∀ {l:List Nat},allL p l=true→∀ x∈l,p x=true
 | [],_,x,hx=>by cases hx
 | y::l,h,x,hx=>by
  obtain ⟨h1,h2⟩:=ah (show cond (p y) (allL p l) false=true from h)
  rcases List.mem_cons.1 hx with rfl | hx
  ·exact h1
  ·exact yZ h2 x hx
theorem FZ {x:Nat}:∀ {l:List Nat},lU x l=true→x∈l
 | [],h=>by cases h
 | y::l,h=>by
  have h:cond (Nat.beq y x) true (lU x l)=true:=h
  cases e:Nat.beq y x with
  | true=>exact List.mem_cons.2 (.inl (nb e).symm)
  | false=>rw [e] at h;exact List.mem_cons.2 (.inr (FZ h))
theorem Gv {p:Nat→Bool}:∀ {l:List Nat},(∀ x∈l,x≠0)→zo p l=0→∀ x∈l,p x=false
 | [],_,_,x,hx=>by cases hx
 | y::l,h0,h,x,hx=>by
  have h:cond (p y) y (zo p l)=0:=h
  cases e:p y with
  | true=>rw [e] at h;exact absurd h (h0 y List.mem_cons_self)
  | false =>
   rw [e] at h
   rcases List.mem_cons.1 hx with rfl | hx
   ·exact e
   ·exact Gv (fun x hx=>h0 x (List.mem_cons_of_mem _ hx)) h x hx
theorem BI {p:Nat→Bool}:∀ {l:List Nat},tY l=true→zo p l≠0→zo p l∈l∧p (zo p l)=true∧∀ x∈l,p x=true→shx x (zo p l)=false
 | [],_,h=>absurd rfl h
 | y::l,ho,h=>by
  obtain ⟨o1,o2⟩:=ah (show cond (allL (fun x=>cond (shx x y) false true) (y::l)) (tY l) false=true from ho)
  have e0:zo p (y::l)=cond (p y) y (zo p l):=rfl
  rw [e0] at h ⊢
  cases e:p y with
  | true =>
   refine ⟨List.mem_cons_self,e,fun x hx _=>?_⟩
   have q:=yZ o1 x hx
   show shx x y=false
   cases z:shx x y with
   | true=>rw [z] at q;cases q
   | false=>rfl
  | false =>
   rw [e] at h
   have h:zo p l≠0:=h
   obtain ⟨k1,k2,k3⟩:=BI o2 h
   refine ⟨List.mem_cons_of_mem _ k1,k2,fun x hx hp=>?_⟩
   rcases List.mem_cons.1 hx with rfl | hx
   ·rw [e] at hp;cases hp
   ·exact k3 x hx hp
theorem aa6:tY (jX 1)=true:=by kernel_rfl
theorem mem1:eu (fun x=>cond (Nat.beq x 0) true (lU x (jX 1))) 2=true:=by kernel_rfl
theorem aaL:allL (fun x=>cond (Nat.blt 0 x) (Nat.blt x 2) false) (jX 1)=true:=by kernel_rfl
theorem abI:tY (jX 2)=true:=by kernel_rfl
theorem mem2:eu (fun x=>cond (Nat.beq x 0) true (lU x (jX 2))) 4=true:=by kernel_rfl
theorem abn:allL (fun x=>cond (Nat.blt 0 x) (Nat.blt x 4) false) (jX 2)=true:=by kernel_rfl
theorem abm:tY (jX 3)=true:=by kernel_rfl
theorem mem3:eu (fun x=>cond (Nat.beq x 0) true (lU x (jX 3))) 8=true:=by kernel_rfl
theorem ab3:allL (fun x=>cond (Nat.blt 0 x) (Nat.blt x 8) false) (jX 3)=true:=by kernel_rfl
theorem aa1:tY (jX 4)=true:=by kernel_rfl
theorem aaO:eu (fun x=>cond (Nat.beq x 0) true (lU x (jX 4))) 16=true:=by kernel_rfl
theorem aaz:allL (fun x=>cond (Nat.blt 0 x) (Nat.blt x 16) false) (jX 4)=true:=by kernel_rfl
theorem abo:tY (jX 5)=true:=by kernel_rfl
theorem aba:eu (fun x=>cond (Nat.beq x 0) true (lU x (jX 5))) 32=true:=by kernel_rfl
theorem aaw:allL (fun x=>cond (Nat.blt 0 x) (Nat.blt x 32) false) (jX 5)=true:=by kernel_rfl
theorem aaB:tY (jX 6)=true:=by kernel_rfl
theorem abR:eu (fun x=>cond (Nat.beq x 0) true (lU x (jX 6))) 64=true:=by kernel_rfl
theorem aa8:allL (fun x=>cond (Nat.blt 0 x) (Nat.blt x 64) false) (jX 6)=true:=by kernel_rfl
theorem Zq:eu (fun x=>cond (Nat.beq x 0) true (cond (Nat.blt 0 (biN (Int.ofNat x))) (Nat.ble (biN (Int.ofNat x)) 6) false)) 64=true:=by kernel_rfl
theorem Ym:eu (fun k=>cond (Nat.beq (biN (Int.ofNat (Nat.pow 2 k))) 1) (cu (biF (Int.ofNat (Nat.pow 2 k)) 0 0) (Int.ofNat k)) false) 6=true:=by kernel_rfl
theorem XX {O:Nat} (h1:1≤O) (h2:O≤6):tY (jX O)=true:=by
 rcases (show O=1∨O=2∨O=3∨O=4∨O=5∨O=6 by omega) with rfl | rfl | rfl | rfl | rfl | rfl
 ·exact aa6
 ·exact abI
 ·exact abm
 ·exact aa1
 ·exact abo
 ·exact aaB
theorem Vr {O x:Nat} (h1:1≤O) (h2:O≤6) (h0:0<x) (hx:x<Nat.pow 2 O):x∈jX O:=by
 have k:∀ {m:Nat} {l:List Nat},eu (fun x=>cond (Nat.beq x 0) true (lU x l)) m=true→x<m→x∈l:=fun h hx=>by
  have q:=aU h x hx
  rw [(fJ x 0).mpr (by omega)] at q
  exact FZ q
 rcases (show O=1∨O=2∨O=3∨O=4∨O=5∨O=6 by omega) with rfl | rfl | rfl | rfl | rfl | rfl
 ·exact k mem1 hx
 ·exact k mem2 hx
 ·exact k mem3 hx
 ·exact k aaO hx
 ·exact k aba hx
 ·exact k abR hx
theorem LQ {O x:Nat} (h1:1≤O) (h2:O≤6) (h:x∈jX O):0<x∧x<Nat.pow 2 O:=by
 have k:∀ {m:Nat} {l:List Nat},allL (fun x=>cond (Nat.blt 0 x) (Nat.blt x m) false) l=true→x∈l→0<x∧x<m:=fun h hx=>by
  obtain ⟨a,b⟩:=ah (yZ h x hx)
  exact ⟨bV a,bV b⟩
 rcases (show O=1∨O=2∨O=3∨O=4∨O=5∨O=6 by omega) with rfl | rfl | rfl | rfl | rfl | rfl
 ·exact k aaL h
 ·exact k abn h
 ·exact k ab3 h
 ·exact k aaz h
 ·exact k aaw h
 ·exact k aa8 h
theorem Dx {O:Nat} (h2:O≤6):Nat.pow 2 O≤64:=by
 have:2^O≤2^6:=Nat.pow_le_pow_right (by omega) h2
 exact this
theorem MX {x:Nat} (h0:0<x) (hx:x<64):0<biN (Int.ofNat x)∧biN (Int.ofNat x)≤6:=by
 have q:=aU Zq x hx
 rw [(fJ x 0).mpr (by omega)] at q
 obtain ⟨a,b⟩:=ah (show cond (Nat.blt 0 (biN (Int.ofNat x))) (Nat.ble (biN (Int.ofNat x)) 6) false=true from q)
 exact ⟨bV a,Nat.le_of_ble_eq_true b⟩
theorem Wp {O x:Nat} (h1:1≤O) (h2:O≤6) (h0:0<x) (hx:x<Nat.pow 2 O):hbB O (biF (Int.ofNat x)) (biN (Int.ofNat x))=true:=by
 have hp:=MX h0 (Nat.lt_of_lt_of_le hx (Dx h2))
 have key:chk O x=true:=by
  rcases (show O=1∨O=2∨O=3∨O=4∨O=5∨O=6 by omega) with rfl | rfl | rfl | rfl | rfl | rfl
  ·exact aU Zx x hx
  ·exact aU ZZ x hx
  ·exact aU ZV x hx
  ·exact aU Y2 x hx
  ·exact aU Y7 x hx
  ·exact aU ZP x hx
 unfold chk at key
 rw [(fJ _ _).mpr (show ¬ biN (Int.ofNat x)=0 by omega)] at key
 exact key
theorem VG {O:Nat} {b:Int} (h1:1≤O) (h2:O≤6) (hb:0≤b∧b≤255):∃ x,0<x∧x<Nat.pow 2 O∧soN O b=biN (Int.ofNat x)∧∀ i,i<soN O b→soF O b i 0=biF (Int.ofNat x) i 0:=by
 by_cases z:biN (uB O b)=0
 ·obtain ⟨e1,e2⟩:=F9 z
  have q:=jq (b:=b) (p:=(O:Int)) hb.1 (by omega)
  obtain ⟨k,hk⟩:∃ k:Nat,Int.tmod b (Int.ofNat O)=Int.ofNat k:=⟨Int.toNat (Int.tmod b O),(Int.toNat_of_nonneg q.1).symm⟩
  have hk6:k<O:=by have:=q.2;rw [show Int.tmod b (O:Int)=Int.ofNat k from hk] at this;exact Int.ofNat_lt.mp this
  obtain ⟨a,c⟩:=ah (aU Ym k (by omega))
  have a:=nb a
  have c:=(dG _ _).mp c
  refine ⟨Nat.pow 2 k,Nat.two_pow_pos k,Nat.pow_lt_pow_right (by omega) hk6,by rw [e1,a],fun i hi=>?_⟩
  rw [e1] at hi
  have:i=0:=by omega
  subst this
  rw [e2,c];exact hk
 ·obtain ⟨e1,e2⟩:=FV z
  have q:=jq (b:=b) (p:=Int.ofNat (Nat.pow 2 O)) hb.1 (by have:0<2^O:=Nat.two_pow_pos O;exact Int.ofNat_lt.mpr this)
  have q:0≤uB O b∧uB O b<Int.ofNat (Nat.pow 2 O):=q
  obtain ⟨x,e⟩:∃ x:Nat,uB O b=Int.ofNat x:=⟨Int.toNat (uB O b),(Int.toNat_of_nonneg q.1).symm⟩
  rw [e] at q
  refine ⟨x,?_,Int.ofNat_lt.mp q.2,by rw [e1,e],fun i _=>by rw [e2,e]⟩
  rcases Nat.eq_zero_or_pos x with rfl | h
  ·exact absurd (show biN (uB O b)=0 by rw [e];rfl) z
  ·exact h
theorem Wq {g g' h:Nat→Nat→Int} {t:Bool}:∀ (d i:Nat),(∀ j,i≤j→j<i+d→g j 0=g' j 0)→bfR g h t d i=bfR g' h t d i
 | 0,_,_=>rfl
 | d+1,i,q=>by
  show cond (cu (g i 0) (h i 0)) (bfR g h t d (i+1)) _=cond (cu (g' i 0) (h i 0)) (bfR g' h t d (i+1)) _
  rw [q i (Nat.le_refl i) (by omega),Wq d (i+1) fun j h1 h2=>q j (by omega) (by omega)]
theorem Y1 {m k:Nat} {g g' h:Nat→Nat→Int} (q:∀ i,i<m→g i 0=g' i 0):shV m g k h=shV m g' k h:=by
 unfold shV bfV
 rw [Wq (cond (Nat.ble m k) m k) 0 fun j _ h2=>q j ?_]
 have:cond (Nat.ble m k) m k≤m:=by
  by_cases e:m≤k
  ·rw [dN e];exact Nat.le_refl m
  ·rw [show Nat.ble m k=false by rw [fV];omega];show k≤m;omega
 omega
def qL (A:Nat) (B:Nat→Nat→Int) (I:Nat) (J:Nat→Nat→Int) (n:Nat) (M:Nat→Nat) (f:Nat→Nat→Nat→Int) (r:Int) (O:Nat) (E:Nat→Nat→Int) (x:Nat):Int:=blV E (biF (Int.ofNat x)) 0 (ai A B I J f O E 0) (ai A B I J f O E 1) (ai A B I J f O E 2) (ai A B I J f O E 3) (ai A B I J f O E 4) (ai A B I J f O E 5) (biN (Int.ofNat x))
def qH (A:Nat) (B:Nat→Nat→Int) (I:Nat) (J:Nat→Nat→Int) (n:Nat) (M:Nat→Nat) (f:Nat→Nat→Nat→Int) (r:Int) (O:Nat) (E:Nat→Nat→Int) (x:Nat):Int:=blV E (biF (Int.ofNat x)) 0 (aj A B I J f O E 0) (aj A B I J f O E 1) (aj A B I J f O E 2) (aj A B I J f O E 3) (aj A B I J f O E 4) (aj A B I J f O E 5) (biN (Int.ofNat x))
theorem aar (A:Nat) (B:Nat→Nat→Int) (I:Nat) (J:Nat→Nat→Int) (n:Nat) (M:Nat→Nat) (f:Nat→Nat→Nat→Int) (r:Int) (O:Nat) (E:Nat→Nat→Int) (hc:iH A B I J n M f r O E=0) (h1:1≤O) (h2:O≤6):okQ O E (ai A B I J f O E 0) (ai A B I J f O E 1) (ai A B I J f O E 2) (ai A B I J f O E 3) (ai A B I J f O E 4) (ai A B I J f O E 5) (aj A B I J f O E 0) (aj A B I J f O E 1) (aj A B I J f O E 2) (aj A B I J f O E 3) (aj A B I J f O E 4) (aj A B I J f O E 5) (qL A B I J n M f r O E) (qH A B I J n M f r O E)=true:=by
 have ok:=Dh A B I J n M f r O E hc
 refine @decide_eq_true _ (Classical.propDecidable _) fun x x0 x1=>?_
 have hb:=Wp h1 h2 x0 x1
 have hn:=MX x0 (Nat.lt_of_lt_of_le x1 (Dx h2))
 exact ⟨LG A B I J n M f r O E _ _ _ ok (V9 A B I J n M f r O E ok) hb (by omega) (Int.le_refl _) (by decide),LG A B I J n M f r O E _ _ _ ok (WY A B I J n M f r O E ok) hb (by omega) (Int.le_refl _) (by decide),rfl,rfl⟩
theorem MF (A:Nat) (B:Nat→Nat→Int) (I:Nat) (J:Nat→Nat→Int) (n:Nat) (M:Nat→Nat) (f:Nat→Nat→Nat→Int) (r:Int) (O:Nat) (E:Nat→Nat→Int) (m:Nat) (g:Nat→Nat→Int) (a b:Int) {x:Nat} (hc:iH A B I J n M f r O E=0) (hb:hbB O g m=true) (hn:m=biN (Int.ofNat x)) (hg:∀ i,i<m→g i 0=biF (Int.ofNat x) i 0):pvB A B I J n M f r O E m g 0 a b=ipB (qL A B I J n M f r O E x) (qH A B I J n M f r O E x) a b:=by
 obtain ⟨b0,b1,b2⟩:=Za A B I J n M f r O E m g (w:=0) hc hb (Int.le_refl _) (by decide)
 unfold pvB
 rw [b0,b1,b2,SA hg,SA hg,hn]
 rfl
end
end BL
end Go.Proofs.YtiplgejpopellaaGreat
