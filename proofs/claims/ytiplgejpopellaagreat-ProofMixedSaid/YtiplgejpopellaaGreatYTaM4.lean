/- Tables: the reference's error is the program's. -/
import Derived.Test.YtiplgejpopellaaGreatYTaF2
set_option linter.all false
set_option linter.unusedSimpArgs false
set_option linter.unusedVariables false
namespace Go.Proofs.YtiplgejpopellaaGreat
open Go Go.Ev
set_option maxRecDepth 1000000
noncomputable section
theorem Wh {len:Nat} {g:Nat→Nat→Int} {m:Int}:jr len g m=true↔allIn 0 m g len=true∧dM g len=true:=by
 constructor
 ·intro h
  refine ⟨bF fun i hi=>?_,bF fun i hi=>?_⟩
  ·have:=riB_t.mp (aW h i hi)
   simp only [inB,decide_eq_true_eq];exact ⟨this.1,this.2.1⟩
  ·have:=(riB_t.mp (aW h (i+1) (by omega))).2.2
   simp only [upB,decide_eq_true_eq]
   rcases this with q | q
   ·omega
   ·exact q
 ·rintro ⟨h1,h2⟩
  refine bF fun i hi=>riB_t.mpr ?_
  have q1:=aW h1 i hi
  simp only [inB,decide_eq_true_eq] at q1
  refine ⟨q1.1,q1.2,?_⟩
  by_cases h0:i=0
  ·exact .inl h0
  ·have q2:=aW h2 (i-1) (by omega)
   simp only [upB,decide_eq_true_eq] at q2
   rw [show i-1+1=i by omega] at q2
   exact .inr q2
theorem X4 (I k:Nat) (g:Nat→Nat→Int):JU I k g=rowB I k g:=by
 unfold JU rowB
 by_cases h:k=I
 ·subst h;rfl
 ·rw [(ji _ _).mpr (by omega)];rfl
theorem Yy (A:Nat) (B:Nat→Nat→Int) (I:Nat) (J:Nat→Nat→Int) (n:Nat) (M:Nat→Nat) (f:Nat→Nat→Nat→Int):faE A B I J n M f=aX A B I J n M f:=by
 have hr:yS I n M f=dC I n M f:=by
  unfold yS dC
  congr 1
  funext i
  exact X4 _ _ _
 have key:cond (wZ A B I J n M f) (cond (yS I n M f) 0 1) (1:Int)=cond (Oi A B I J n M f) 0 1:=by
  rw [hr]
  unfold wZ Oi KG
  cases e1:ax 2 (A:Int) with
  | false=>rfl
  | true =>
  cases e2:ax 2 (I:Int) with
  | false =>
   simp only [cond_true,cond_false]
   cases cond (allIn 0 40 B A) (dM B A) false<;>rfl
  | true =>
  simp only [cond_true]
  have r1:∀ {len:Nat} {g:Nat→Nat→Int} {m:Int},cond (allIn 0 m g len) (dM g len) false=jr len g m:=fun {len g m}=>by
   rw [Bool.eq_iff_iff,Wh]
   constructor
   ·intro h;exact ah h
   ·rintro ⟨h1,h2⟩;exact aN h1 h2
  rw [r1,r1]
  cases jr A B 40 with
  | false=>rfl
  | true =>
  cases jr I J 60 with
  | false=>rfl
  | true =>
  cases aY (n:Int) (A:Int) with
  | false=>rfl
  | true=>rfl
 unfold faE aX
 rw [key]
theorem ZX {A I n:Nat} {M:Nat→Nat} (h:eQ A I n M=true):nT A I n M=true:=by
 obtain ⟨h1,h2,h3,h4⟩:=D8 h
 exact aN (dL (by omega)) (aN (dL (by omega)) (aN (dL (by omega)) (bF fun i hi=>dL (by have:=h4 i hi;omega))))
end
end Go.Proofs.YtiplgejpopellaaGreat
