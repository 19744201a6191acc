/- Tables: the reference's error is the program's. -/
import Derived.Test.YtiplgejpopellaaGreatYTaF2
set_option linter.all false
set_option linter.unusedSimpArgs false
set_option linter.unusedVariables false
namespace Go.Proofs.YtiplgejpopellaaGreat
open Go Go.Ev
set_option maxRecDepth 1000000
noncomputable section
theorem Vy {len:Nat} {g:Nat→Nat→Int} {m:Int}:jy len g m=true↔allIn 0 m g len=true∧dO g len=true:=by
 constructor
 ·intro h
  refine ⟨bJ fun i hi=>?_,bJ fun i hi=>?_⟩
  ·have:=riB_t.mp (aU h i hi)
   simp only [inB,decide_eq_true_eq];exact ⟨this.1,this.2.1⟩
  ·have:=(riB_t.mp (aU h (i+1) (by omega))).2.2
   simp only [upB,decide_eq_true_eq]
   rcases this with q | q
   ·omega
   ·exact q
 ·rintro ⟨h1,h2⟩
  refine bJ fun i hi=>riB_t.mpr ?_
  have q1:=aU h1 i hi
  simp only [inB,decide_eq_true_eq] at q1
  refine ⟨q1.1,q1.2,?_⟩
  by_cases h0:i=0
  ·exact .inl h0
  ·have q2:=aU h2 (i-1) (by omega)
   simp only [upB,decide_eq_true_eq] at q2
   rw [show i-1+1=i by omega] at q2
   exact .inr q2
theorem Xd (I k:Nat) (g:Nat→Nat→Int):Jm I k g=rowB I k g:=by
 unfold Jm rowB
 by_cases h:k=I
 ·subst h;rfl
 ·rw [(eF _ _).mpr (by omega)];rfl
theorem Xk (A:Nat) (B:Nat→Nat→Int) (I:Nat) (J:Nat→Nat→Int) (n:Nat) (M:Nat→Nat) (f:Nat→Nat→Nat→Int):faE A B I J n M f=aX A B I J n M f:=by
 have hr:zC I n M f=dF I n M f:=by
  unfold zC dF
  congr 1
  funext i
  exact Xd _ _ _
 have key:cond (wK A B I J n M f) (cond (zC I n M f) 0 1) (1:Int)=cond (Ol A B I J n M f) 0 1:=by
  rw [hr]
  unfold wK Ol MM
  cases e1:az 2 (A:Int) with
  | false=>rfl
  | true =>
  cases e2:az 2 (I:Int) with
  | false =>
   simp only [cond_true,cond_false]
   cases cond (allIn 0 40 B A) (dO B A) false<;>rfl
  | true =>
  simp only [cond_true]
  have r1:∀ {len:Nat} {g:Nat→Nat→Int} {m:Int},cond (allIn 0 m g len) (dO g len) false=jy len g m:=fun {len g m}=>by
   rw [Bool.eq_iff_iff,Vy]
   constructor
   ·intro h;exact ah h
   ·rintro ⟨h1,h2⟩;exact aO h1 h2
  rw [r1,r1]
  cases jy A B 40 with
  | false=>rfl
  | true =>
  cases jy I J 60 with
  | false=>rfl
  | true =>
  cases cu (n:Int) (A:Int) with
  | false=>rfl
  | true=>rfl
 unfold faE aX
 rw [key]
theorem Y0 {A I n:Nat} {M:Nat→Nat} (h:gQ A I n M=true):lD A I n M=true:=by
 obtain ⟨h1,h2,h3,h4⟩:=Eb h
 exact aO (dN (by omega)) (aO (dN (by omega)) (aO (dN (by omega)) (bJ fun i hi=>dN (by have:=h4 i hi;omega))))
end
end Go.Proofs.YtiplgejpopellaaGreat
