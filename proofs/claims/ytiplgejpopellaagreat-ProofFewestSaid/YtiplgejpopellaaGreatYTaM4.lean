/- Tables: the reference's error is the program's. -/
import Derived.Test.YtiplgejpopellaaGreatYTaF2
set_option linter.all false
set_option linter.unusedSimpArgs false
set_option linter.unusedVariables false
namespace Go.Proofs.YtiplgejpopellaaGreat
open Go Go.Ev
set_option maxRecDepth 1000000
noncomputable section
theorem Xf {len:Nat} {g:Nat→Nat→Int} {m:Int}:jZ len g m=true↔allIn 0 m g len=true∧eP g len=true:=by
 constructor
 ·intro h
  refine ⟨bW fun i hi=>?_,bW fun i hi=>?_⟩
  ·have:=riB_t.mp (aX h i hi)
   simp only [inB,decide_eq_true_eq];exact ⟨this.1,this.2.1⟩
  ·have:=(riB_t.mp (aX h (i+1) (by omega))).2.2
   simp only [upB,decide_eq_true_eq]
   rcases this with q | q
   ·omega
   ·exact q
 ·rintro ⟨h1,h2⟩
  refine bW fun i hi=>riB_t.mpr ?_
  have q1:=aX h1 i hi
  simp only [inB,decide_eq_true_eq] at q1
  refine ⟨q1.1,q1.2,?_⟩
  by_cases h0:i=0
  ·exact .inl h0
  ·have q2:=aX h2 (i-1) (by omega)
   simp only [upB,decide_eq_true_eq] at q2
   rw [show i-1+1=i by omega] at q2
   exact .inr q2
theorem ZM (I k:Nat) (g:Nat→Nat→Int):L8 I k g=rowB I k g:=by
 unfold L8 rowB
 by_cases h:k=I
 ·subst h;rfl
 ·rw [(fD _ _).mpr (by omega)];rfl
theorem ZX (A:Nat) (B:Nat→Nat→Int) (I:Nat) (J:Nat→Nat→Int) (n:Nat) (M:Nat→Nat) (f:Nat→Nat→Nat→Int):faE A B I J n M f=aT A B I J n M f:=by
 have hr:Bg I n M f=dU I n M f:=by
  unfold Bg dU
  congr 1
  funext i
  exact ZM _ _ _
 have key:cond (yC A B I J n M f) (cond (Bg I n M f) 0 1) (1:Int)=cond (QK A B I J n M f) 0 1:=by
  rw [hr]
  unfold yC QK OV
  cases e1:ak 2 (A:Int) with
  | false=>rfl
  | true =>
  cases e2:ak 2 (I:Int) with
  | false =>
   simp only [cond_true,cond_false]
   cases cond (allIn 0 40 B A) (eP B A) false<;>rfl
  | true =>
  simp only [cond_true]
  have r1:∀ {len:Nat} {g:Nat→Nat→Int} {m:Int},cond (allIn 0 m g len) (eP g len) false=jZ len g m:=fun {len g m}=>by
   rw [Bool.eq_iff_iff,Xf]
   constructor
   ·intro h;exact ah h
   ·rintro ⟨h1,h2⟩;exact aI h1 h2
  rw [r1,r1]
  cases jZ A B 40 with
  | false=>rfl
  | true =>
  cases jZ I J 60 with
  | false=>rfl
  | true =>
  cases bY (n:Int) (A:Int) with
  | false=>rfl
  | true=>rfl
 unfold faE aT
 rw [key]
theorem ZZ {A I n:Nat} {M:Nat→Nat} (h:iW A I n M=true):oQ A I n M=true:=by
 obtain ⟨h1,h2,h3,h4⟩:=Fa h
 exact aI (dV (by omega)) (aI (dV (by omega)) (aI (dV (by omega)) (bW fun i hi=>dV (by have:=h4 i hi;omega))))
end
end Go.Proofs.YtiplgejpopellaaGreat
