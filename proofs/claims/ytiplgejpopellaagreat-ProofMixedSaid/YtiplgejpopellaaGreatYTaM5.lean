/- Tables: bounds: within them, and reached. -/
import Derived.Test.YtiplgejpopellaaGreatYTaM4
set_option linter.all false
set_option linter.unusedSimpArgs false
set_option linter.unusedVariables false
namespace Go.Proofs.YtiplgejpopellaaGreat
open Go Go.Ev
set_option maxRecDepth 1000000
noncomputable section
theorem Wx {g:Nat→Nat→Int} {x:Int}:∀ {n k:Nat},k<n→ou g x n≤g k 0:=by
 intro n
 induction n with
 | zero=>intro k hk;omega
 | succ n ih =>
  intro k hk
  have e:ou g x (n+1)=min (ou g x n) (g n 0):=rfl
  rw [e]
  by_cases q:k=n
  ·subst q;omega
  ·have:=ih (k:=k) (by omega);omega
theorem V7 {g:Nat→Nat→Int} {x:Int}:∀ {n k:Nat},k<n→g k 0≤oq g x n:=by
 intro n
 induction n with
 | zero=>intro k hk;omega
 | succ n ih =>
  intro k hk
  have e:oq g x (n+1)=max (oq g x n) (g n 0):=rfl
  rw [e]
  by_cases q:k=n
  ·subst q;omega
  ·have:=ih (k:=k) (by omega);omega
theorem VE {g:Nat→Nat→Int} {x:Int}:∀ (n:Nat),ou g x n=x∨∃ k,k<n∧ou g x n=g k 0:=by
 intro n
 induction n with
 | zero=>exact .inl rfl
 | succ n ih =>
  have e:ou g x (n+1)=min (ou g x n) (g n 0):=rfl
  by_cases q:ou g x n≤g n 0
  ·rcases ih with h | ⟨k,h1,h2⟩
   ·exact .inl (by rw [e];omega)
   ·exact .inr ⟨k,by omega,by rw [e];omega⟩
  ·exact .inr ⟨n,by omega,by rw [e];omega⟩
theorem Wy {g:Nat→Nat→Int} {x:Int}:∀ (n:Nat),oq g x n=x∨∃ k,k<n∧oq g x n=g k 0:=by
 intro n
 induction n with
 | zero=>exact .inl rfl
 | succ n ih =>
  have e:oq g x (n+1)=max (oq g x n) (g n 0):=rfl
  by_cases q:g n 0≤oq g x n
  ·rcases ih with h | ⟨k,h1,h2⟩
   ·exact .inl (by rw [e];omega)
   ·exact .inr ⟨k,by omega,by rw [e];omega⟩
  ·exact .inr ⟨n,by omega,by rw [e];omega⟩
section
variable {A:Nat} {B:Nat→Nat→Int} {I:Nat} {J:Nat→Nat→Int} {f:Nat→Nat→Nat→Int} {a b c d:Int}
theorem Zu (h1:a≤b) (h2:c≤d) {x y:Int} (hx:a≤x∧x≤b) (hy:c≤y∧y≤d):∃ t,t<nP a b c d∧dR A B I J f a c d t=jZ A B I J f x y:=by
 have hm:=lh c d h2
 have hw:(nW a b:Int)=b-a+1:=lh a b h1
 refine ⟨Int.toNat (x-a)*nM c d+Int.toNat (y-c),?_,?_⟩
 ·unfold nP
  have e:(Int.toNat (x-a)+1)*nM c d≤nW a b*nM c d:=Nat.mul_le_mul_right _ (by omega)
  rw [Nat.add_mul] at e
  omega
 ·rw [Eo A B I J f a c d h2 (i:=Int.toNat (x-a)) (k:=Int.toNat (y-c)) (by omega)]
  rw [show a+((Int.toNat (x-a):Nat):Int)=x by omega,show c+((Int.toNat (y-c):Nat):Int)=y by omega]
theorem Xj (h1:a≤b) (h2:c≤d) {t:Nat} (ht:t<nP a b c d):∃ x y,(a≤x∧x≤b)∧(c≤y∧y≤d)∧dR A B I J f a c d t=jZ A B I J f x y:=by
 have hm:=lh c d h2
 have hw:(nW a b:Int)=b-a+1:=lh a b h1
 have p0:0<nM c d:=by omega
 have r1:=Nat.mod_lt t p0
 have r2:t/nM c d<nW a b:=Nat.div_lt_of_lt_mul (by unfold nP at ht;rw [Nat.mul_comm];exact ht)
 obtain ⟨q,eq⟩:∃ q,q=t/nM c d:=⟨_,rfl⟩
 obtain ⟨r,er⟩:∃ r,r=t%nM c d:=⟨_,rfl⟩
 refine ⟨a+((t/nM c d:Nat):Int),c+((t%nM c d:Nat):Int),?_,?_,rfl⟩
 ·rw [← eq] at r2 ⊢;exact ⟨by omega,by omega⟩
 ·rw [← er] at r1 ⊢;exact ⟨by omega,by omega⟩
theorem P5 (h1:a≤b) (h2:c≤d):0<nP a b c d:=by
 have hm:=lh c d h2
 have hw:(nW a b:Int)=b-a+1:=lh a b h1
 exact Nat.mul_pos (by omega) (by omega)
theorem ZG (h1:a≤b) (h2:c≤d) {x y:Int} (hx:a≤x∧x≤b) (hy:c≤y∧y≤d):bdL A B I J f a b c d≤jZ A B I J f x y∧jZ A B I J f x y≤bdH A B I J f a b c d:=by
 obtain ⟨t,t1,t2⟩:=Zu (A:=A) (B:=B) (I:=I) (J:=J) (f:=f) h1 h2 hx hy
 rw [← t2]
 exact ⟨Wx (g:=fun i _=>dR A B I J f a c d i) t1,V7 (g:=fun i _=>dR A B I J f a c d i) t1⟩
theorem UA (h1:a≤b) (h2:c≤d):∃ x y,(a≤x∧x≤b)∧(c≤y∧y≤d)∧bdL A B I J f a b c d=jZ A B I J f x y:=by
 have key:∃ t,t<nP a b c d∧bdL A B I J f a b c d=dR A B I J f a c d t:=by
  rcases VE (g:=fun i _=>dR A B I J f a c d i) (x:=dR A B I J f a c d 0) (nP a b c d) with h | ⟨k,k1,k2⟩
  ·exact ⟨0,P5 h1 h2,h⟩
  ·exact ⟨k,k1,k2⟩
 obtain ⟨t,t1,t2⟩:=key
 obtain ⟨x,y,hx,hy,e⟩:=Xj (A:=A) (B:=B) (I:=I) (J:=J) (f:=f) h1 h2 t1
 exact ⟨x,y,hx,hy,t2.trans e⟩
theorem Qp (h1:a≤b) (h2:c≤d):∃ x y,(a≤x∧x≤b)∧(c≤y∧y≤d)∧bdH A B I J f a b c d=jZ A B I J f x y:=by
 have key:∃ t,t<nP a b c d∧bdH A B I J f a b c d=dR A B I J f a c d t:=by
  rcases Wy (g:=fun i _=>dR A B I J f a c d i) (x:=dR A B I J f a c d 0) (nP a b c d) with h | ⟨k,k1,k2⟩
  ·exact ⟨0,P5 h1 h2,h⟩
  ·exact ⟨k,k1,k2⟩
 obtain ⟨t,t1,t2⟩:=key
 obtain ⟨x,y,hx,hy,e⟩:=Xj (A:=A) (B:=B) (I:=I) (J:=J) (f:=f) h1 h2 t1
 exact ⟨x,y,hx,hy,t2.trans e⟩
variable {n:Nat} {M:Nat→Nat}
end
end
end Go.Proofs.YtiplgejpopellaaGreat
