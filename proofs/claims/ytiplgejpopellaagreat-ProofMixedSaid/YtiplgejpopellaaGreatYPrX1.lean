/- Casks: a store each of whose ranges is one number; what the strength of a blend and its tenths are bounded by. -/
import Derived.Test.YtiplgejpopellaaGreatYPrE4
set_option linter.all false
set_option linter.unusedSimpArgs false
set_option linter.unusedVariables false
namespace Go.Proofs.YtiplgejpopellaaGreat
namespace BL
open Go Go.Ev
set_option maxRecDepth 1000000
noncomputable section
theorem Vb {A:Nat} {B:Nat→Nat→Int} {I:Nat} {J:Nat→Nat→Int} {f:Nat→Nat→Nat→Int} (x y:Int):Go.Proofs.YtiplgejpopellaaGreat.bdL A B I J f x x y y=Go.Proofs.YtiplgejpopellaaGreat.bdH A B I J f x x y y:=by
 obtain ⟨x1,y1,hx1,hy1,e1⟩:=UA (A:=A) (B:=B) (I:=I) (J:=J) (f:=f) (Int.le_refl x) (Int.le_refl y)
 obtain ⟨x2,y2,hx2,hy2,e2⟩:=Qp (A:=A) (B:=B) (I:=I) (J:=J) (f:=f) (Int.le_refl x) (Int.le_refl y)
 have a1:x1=x:=by omega
 have a2:x2=x:=by omega
 have b1:y1=y:=by omega
 have b2:y2=y:=by omega
 rw [e1,e2,a1,a2,b1,b2]
theorem mr (A:Nat) (B:Nat→Nat→Int) (I:Nat) (J:Nat→Nat→Int) (n:Nat) (M:Nat→Nat) (f:Nat→Nat→Nat→Int) (r:Int) (O:Nat) (E:Nat→Nat→Int) {g:Nat→Nat→Int} (hc:fM A B I J n M f r O E=0) (h:∀ i,i<O→g i 0=E i 0∧g i 1=E i 1∧g i 2=E i 1∧g i 3=E i 3∧g i 4=E i 3):fM A B I J n M f r O g=0∧∀ i,i<O→gz A B I J f g i=gB A B I J f g i:=by
 have ok:=xN A B I J n M f r O E hc
 refine ⟨?_,fun i hi=>?_⟩
 ·have ac:mf A B I J g O=true:=bF fun i hi=>by
   obtain ⟨h0,h1,h2,h3,h4⟩:=h i hi
   obtain ⟨q1,q2,q3⟩:=ok.cask i hi
   show soB A B I J (g i 0) (g i 1) (g i 2) (g i 3) (g i 4)=true
   rw [h0,h1,h2,h3,h4]
   exact soB_t.mpr ⟨q1,⟨Int.le_refl _,q2.2.1,q2.2.1⟩,⟨Int.le_refl _,q3.2.1,q3.2.1⟩⟩
  have c1:=ok.tab
  have c2:=ok.six
  have c3:=ok.rate
  rcases qG A B I J n M f r O g with ⟨q,_⟩ | ⟨_,q,_⟩ | ⟨_,_,q,_⟩ | ⟨_,_,_,q⟩
  ·exact absurd c1 q
  ·exact absurd c2 q
  ·exact absurd ⟨c3.1,c3.2,ac⟩ q
  ·exact q
 ·obtain ⟨_,h1,h2,h3,h4⟩:=h i hi
  show Go.Proofs.YtiplgejpopellaaGreat.bdL A B I J f (g i 1) (g i 2) (g i 3) (g i 4)=Go.Proofs.YtiplgejpopellaaGreat.bdH A B I J f (g i 1) (g i 2) (g i 3) (g i 4)
  rw [h1,h2,h3,h4]
  exact Vb _ _
def gY (E g t:Nat→Nat→Int) (i:Nat):Int:=Nat.rec (motive:=fun _=>Int) 0 (fun i a=>a+Int.tdiv ((E (Int.toNat (g i 0)) 0)*(t (Int.toNat (g i 0)) 0)) 100) i
def gV (g t:Nat→Nat→Int) (i:Nat):Int:=Nat.rec (motive:=fun _=>Int) 9999 (fun i a=>min a (t (Int.toNat (g i 0)) 0)) i
def dS (g t:Nat→Nat→Int) (i:Nat):Int:=Nat.rec (motive:=fun _=>Int) 0 (fun i a=>max a (t (Int.toNat (g i 0)) 0)) i
theorem mix {O:Nat} {E:Nat→Nat→Int} {m:Nat} {g:Nat→Nat→Int} {w:Int} {k:Nat} {t:Nat→Nat→Int} (h:TQ O E m g w k t=true):∀ i,i≤m→(100*gY E g t i≤rsm E g t i∧rsm E g t i≤100*gY E g t i+99*(i:Int))∧(0≤gY E g t i)∧(∀ x,x≤gV g t i→x*gsm E g 0 i≤rsm E g t i)∧(∀ x,dS g t i≤x→rsm E g t i≤x*gsm E g 0 i)∧(0<i→0≤gV g t i∧gV g t i≤2000∧0≤dS g t i∧dS g t i≤2000)∧(i:Int)≤gsm E g 0 i∧gsm E g 0 i≤99*(i:Int):=by
 obtain ⟨q0,_,_,_,q⟩:=xX h
 obtain ⟨_,_,p⟩:=sS q0
 intro i
 induction i with
 | zero =>
  intro _
  refine ⟨⟨Int.le_refl _,Int.le_refl _⟩,Int.le_refl _,fun x _=>?_,fun x _=>?_,fun z=>absurd z (by omega),Int.le_refl _,Int.le_refl _⟩
  ·show x*0≤0;omega
  ·show 0≤x*0;omega
 | succ i ih =>
  intro hi
  obtain ⟨⟨a1,a2⟩,a3,a4,a5,a6,a7,a8⟩:=ih (by omega)
  have c:=(p i (by omega)).2
  have d:=(q i (by omega)).2
  have b:=Ik c d
  have eo:gY E g t (i+1)=gY E g t i+Int.tdiv ((E (Int.toNat (g i 0)) 0)*(t (Int.toNat (g i 0)) 0)) 100:=rfl
  have el:gV g t (i+1)=min (gV g t i) (t (Int.toNat (g i 0)) 0):=rfl
  have eh:dS g t (i+1)=max (dS g t i) (t (Int.toNat (g i 0)) 0):=rfl
  have eg:gsm E g 0 (i+1)=gsm E g 0 i+(E (Int.toNat (g i 0)) 0):=rfl
  have ed:Int.tdiv ((E (Int.toNat (g i 0)) 0)*(t (Int.toNat (g i 0)) 0)) 100=((E (Int.toNat (g i 0)) 0)*(t (Int.toNat (g i 0)) 0))/100:=Int.tdiv_eq_ediv_of_nonneg b.1
  rw [eo,el,eh,eg,Un,ed]
  refine ⟨by push_cast;omega,by omega,fun x hx=>?_,fun x hx=>?_,fun _=>?_,by push_cast;omega,by push_cast;omega⟩
  ·have hx1:x≤gV g t i∧x≤(t (Int.toNat (g i 0)) 0):=by omega
   have z:=a4 x hx1.1
   have y:=Int.mul_le_mul_of_nonneg_left hx1.2 (show 0≤(E (Int.toNat (g i 0)) 0) by omega)
   rw [Int.mul_add,Int.mul_comm x (E (Int.toNat (g i 0)) 0)];omega
  ·have hx1:dS g t i≤x∧(t (Int.toNat (g i 0)) 0)≤x:=by omega
   have z:=a5 x hx1.1
   have y:=Int.mul_le_mul_of_nonneg_left hx1.2 (show 0≤(E (Int.toNat (g i 0)) 0) by omega)
   rw [Int.mul_add,Int.mul_comm x (E (Int.toNat (g i 0)) 0)];omega
  ·by_cases i0:i=0
   ·subst i0
    have l0:gV g t 0=9999:=rfl
    have h0:dS g t 0=0:=rfl
    rw [l0,h0]
    omega
   ·have:=a6 (by omega)
    omega
theorem mixed {O:Nat} {E:Nat→Nat→Int} {m:Nat} {g:Nat→Nat→Int} {k:Nat} {t:Nat→Nat→Int} (h:TQ O E m g 0 k t=true):gV g t m≤rsV E g 0 t m∧rsV E g 0 t m≤dS g t m∧Int.tdiv (gsm E g 0 m*rsV E g 0 t m) 100≤gY E g t m+(m:Int)-1∧gY E g t m-Int.tdiv (gsm E g 0 m+99) 100≤Int.tdiv (gsm E g 0 m*rsV E g 0 t m) 100:=by
 obtain ⟨_,m0,_,_,_⟩:=xX h
 have r0:=Jh h m (Nat.le_refl m)
 obtain ⟨⟨a1,a2⟩,a3,a4,a5,a6,a7,a8⟩:=mix h m (Nat.le_refl m)
 have a6:=a6 m0
 have gp:0<gsm E g 0 m:=by omega
 have e:rsV E g 0 t m=rsm E g t m/gsm E g 0 m:=by
  unfold rsV
  rw [Int.tdiv_eq_ediv_of_nonneg r0.1,Int.add_zero]
 have v0:0≤rsV E g 0 t m:=by rw [e];exact Int.ediv_nonneg r0.1 (by omega)
 have v1:gsm E g 0 m*rsV E g 0 t m≤rsm E g t m:=by rw [e];exact Int.mul_ediv_self_le (by omega)
 have v2:rsm E g t m<gsm E g 0 m*rsV E g 0 t m+gsm E g 0 m:=by rw [e];exact Int.lt_mul_ediv_self_add gp
 have v3:0≤gsm E g 0 m*rsV E g 0 t m:=Int.mul_nonneg (by omega) v0
 rw [Int.tdiv_eq_ediv_of_nonneg v3,Int.tdiv_eq_ediv_of_nonneg (show 0≤gsm E g 0 m+99 by omega)]
 refine ⟨?_,?_,by omega,by omega⟩
 ·rw [e];exact Int.le_ediv_of_mul_le gp (a4 _ (Int.le_refl _))
 ·have z:=a5 _ (Int.le_refl _)
  rw [e]
  exact Int.ediv_le_of_le_mul gp z
end
end BL
end Go.Proofs.YtiplgejpopellaaGreat
