/- Tables: bounds: within them, and reached. -/
import Derived.Test.YtiplgejpopellaaGreatYTaM4
set_option linter.all false
set_option linter.unusedSimpArgs false
set_option linter.unusedVariables false
namespace Go.Proofs.YtiplgejpopellaaGreat
open Go Go.Ev
set_option maxRecDepth 1000000
noncomputable section
theorem yY {g:Nat→Nat→Int} {x:Int}:∀ {n k:Nat},k<n→mP g x n≤g k 0:=by
 intro n
 induction n with
 | zero=>intro k hk;omega
 | succ n ih =>
  intro k hk
  have e:mP g x (n+1)=min (mP g x n) (g n 0):=rfl
  rw [e]
  by_cases q:k=n
  ·subst q;omega
  ·have:=ih (k:=k) (by omega);omega
theorem yS {g:Nat→Nat→Int} {x:Int}:∀ {n k:Nat},k<n→g k 0≤mW g x n:=by
 intro n
 induction n with
 | zero=>intro k hk;omega
 | succ n ih =>
  intro k hk
  have e:mW g x (n+1)=max (mW g x n) (g n 0):=rfl
  rw [e]
  by_cases q:k=n
  ·subst q;omega
  ·have:=ih (k:=k) (by omega);omega
theorem FI {g:Nat→Nat→Int} {x:Int}:∀ (n:Nat),mP g x n=x∨∃ k,k<n∧mP g x n=g k 0:=by
 intro n
 induction n with
 | zero=>exact .inl rfl
 | succ n ih =>
  have e:mP g x (n+1)=min (mP g x n) (g n 0):=rfl
  by_cases q:mP g x n≤g n 0
  ·rcases ih with h | ⟨k,h1,h2⟩
   ·exact .inl (by rw [e];omega)
   ·exact .inr ⟨k,by omega,by rw [e];omega⟩
  ·exact .inr ⟨n,by omega,by rw [e];omega⟩
theorem EP {g:Nat→Nat→Int} {x:Int}:∀ (n:Nat),mW g x n=x∨∃ k,k<n∧mW g x n=g k 0:=by
 intro n
 induction n with
 | zero=>exact .inl rfl
 | succ n ih =>
  have e:mW g x (n+1)=max (mW g x n) (g n 0):=rfl
  by_cases q:g n 0≤mW g x n
  ·rcases ih with h | ⟨k,h1,h2⟩
   ·exact .inl (by rw [e];omega)
   ·exact .inr ⟨k,by omega,by rw [e];omega⟩
  ·exact .inr ⟨n,by omega,by rw [e];omega⟩
section
variable {A:Nat} {B:Nat→Nat→Int} {I:Nat} {J:Nat→Nat→Int} {f:Nat→Nat→Nat→Int} {a b c d:Int}
theorem aaB (h1:a≤b) (h2:c≤d) {x y:Int} (hx:a≤x∧x≤b) (hy:c≤y∧y≤d):∃ t,t<nP a b c d∧dZ A B I J f a c d t=iy A B I J f x y:=by
 have hm:=kT c d h2
 have hw:(nW a b:Int)=b-a+1:=kT a b h1
 refine ⟨Int.toNat (x-a)*nM c d+Int.toNat (y-c),?_,?_⟩
 ·unfold nP
  have e:(Int.toNat (x-a)+1)*nM c d≤nW a b*nM c d:=Nat.mul_le_mul_right _ (by omega)
  rw [Nat.add_mul] at e
  omega
 ·rw [zI A B I J f a c d h2 (i:=Int.toNat (x-a)) (k:=Int.toNat (y-c)) (by omega)]
  rw [show a+((Int.toNat (x-a):Nat):Int)=x by omega,show c+((Int.toNat (y-c):Nat):Int)=y by omega]
theorem Vw (h1:a≤b) (h2:c≤d) {t:Nat} (ht:t<nP a b c d):∃ x y,(a≤x∧x≤b)∧(c≤y∧y≤d)∧dZ A B I J f a c d t=iy A B I J f x y:=by
 have hm:=kT c d h2
 have hw:(nW a b:Int)=b-a+1:=kT a b h1
 have p0:0<nM c d:=by omega
 have r1:=Nat.mod_lt t p0
 have r2:t/nM c d<nW a b:=Nat.div_lt_of_lt_mul (by unfold nP at ht;rw [Nat.mul_comm];exact ht)
 obtain ⟨q,eq⟩:∃ q,q=t/nM c d:=⟨_,rfl⟩
 obtain ⟨r,er⟩:∃ r,r=t%nM c d:=⟨_,rfl⟩
 refine ⟨a+((t/nM c d:Nat):Int),c+((t%nM c d:Nat):Int),?_,?_,rfl⟩
 ·rw [← eq] at r2 ⊢;exact ⟨by omega,by omega⟩
 ·rw [← er] at r1 ⊢;exact ⟨by omega,by omega⟩
theorem Kw (h1:a≤b) (h2:c≤d):0<nP a b c d:=by
 have hm:=kT c d h2
 have hw:(nW a b:Int)=b-a+1:=kT a b h1
 exact Nat.mul_pos (by omega) (by omega)
theorem aay (h1:a≤b) (h2:c≤d) {x y:Int} (hx:a≤x∧x≤b) (hy:c≤y∧y≤d):dO A B I J f a b c d≤iy A B I J f x y∧iy A B I J f x y≤dP A B I J f a b c d:=by
 obtain ⟨t,t1,t2⟩:=aaB (A:=A) (B:=B) (I:=I) (J:=J) (f:=f) h1 h2 hx hy
 rw [← t2]
 exact ⟨yY (g:=fun i _=>dZ A B I J f a c d i) t1,yS (g:=fun i _=>dZ A B I J f a c d i) t1⟩
theorem Y4 (h1:a≤b) (h2:c≤d):∃ x y,(a≤x∧x≤b)∧(c≤y∧y≤d)∧dO A B I J f a b c d=iy A B I J f x y:=by
 have key:∃ t,t<nP a b c d∧dO A B I J f a b c d=dZ A B I J f a c d t:=by
  rcases FI (g:=fun i _=>dZ A B I J f a c d i) (x:=dZ A B I J f a c d 0) (nP a b c d) with h | ⟨k,k1,k2⟩
  ·exact ⟨0,Kw h1 h2,h⟩
  ·exact ⟨k,k1,k2⟩
 obtain ⟨t,t1,t2⟩:=key
 obtain ⟨x,y,hx,hy,e⟩:=Vw (A:=A) (B:=B) (I:=I) (J:=J) (f:=f) h1 h2 t1
 exact ⟨x,y,hx,hy,t2.trans e⟩
theorem Y8 (h1:a≤b) (h2:c≤d):∃ x y,(a≤x∧x≤b)∧(c≤y∧y≤d)∧dP A B I J f a b c d=iy A B I J f x y:=by
 have key:∃ t,t<nP a b c d∧dP A B I J f a b c d=dZ A B I J f a c d t:=by
  rcases EP (g:=fun i _=>dZ A B I J f a c d i) (x:=dZ A B I J f a c d 0) (nP a b c d) with h | ⟨k,k1,k2⟩
  ·exact ⟨0,Kw h1 h2,h⟩
  ·exact ⟨k,k1,k2⟩
 obtain ⟨t,t1,t2⟩:=key
 obtain ⟨x,y,hx,hy,e⟩:=Vw (A:=A) (B:=B) (I:=I) (J:=J) (f:=f) h1 h2 t1
 exact ⟨x,y,hx,hy,t2.trans e⟩
variable {n:Nat} {M:Nat→Nat}
end
end
end Go.Proofs.YtiplgejpopellaaGreat
