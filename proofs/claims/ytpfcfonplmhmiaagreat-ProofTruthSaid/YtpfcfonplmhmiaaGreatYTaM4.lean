/- Tables: the reference's error is the program's. -/
import Derived.Test.YtpfcfonplmhmiaaGreatYTaF2
set_option linter.all false
set_option linter.unusedSimpArgs false
set_option linter.unusedVariables false
namespace Go.Proofs.YtpfcfonplmhmiaaGreat
open Go Go.Ev
set_option maxRecDepth 1000000
noncomputable section
theorem Vo {len:Nat} {g:Nat→Nat→Int} {m:Int}:jJ len g m=true↔allIn 0 m g len=true∧dV g len=true:=by
 constructor
 ·intro h
  refine ⟨bF fun i hi=>?_,bF fun i hi=>?_⟩
  ·have:=riB_t.mp (aZ h i hi)
   simp only [inB,decide_eq_true_eq];exact ⟨this.1,this.2.1⟩
  ·have:=(riB_t.mp (aZ h (i+1) (by omega))).2.2
   simp only [upB,decide_eq_true_eq]
   rcases this with q | q
   ·omega
   ·exact q
 ·rintro ⟨h1,h2⟩
  refine bF fun i hi=>riB_t.mpr ?_
  have q1:=aZ h1 i hi
  simp only [inB,decide_eq_true_eq] at q1
  refine ⟨q1.1,q1.2,?_⟩
  by_cases h0:i=0
  ·exact .inl h0
  ·have q2:=aZ h2 (i-1) (by omega)
   simp only [upB,decide_eq_true_eq] at q2
   rw [show i-1+1=i by omega] at q2
   exact .inr q2
theorem XK (I k:Nat) (g:Nat→Nat→Int):Jn I k g=rowB I k g:=by
 unfold Jn rowB
 by_cases h:k=I
 ·subst h;rfl
 ·rw [(gZ _ _).mpr (by omega)];rfl
theorem YE (A:Nat) (B:Nat→Nat→Int) (I:Nat) (J:Nat→Nat→Int) (n:Nat) (M:Nat→Nat) (f:Nat→Nat→Nat→Int):faE A B I J n M f=aK A B I J n M f:=by
 have hr:zU I n M f=dH I n M f:=by
  unfold zU dH
  congr 1
  funext i
  exact XK _ _ _
 have key:cond (xB A B I J n M f) (cond (zU I n M f) 0 1) (1:Int)=cond (PW A B I J n M f) 0 1:=by
  rw [hr]
  unfold xB PW LY
  cases e1:ak 2 (A:Int) with
  | false=>rfl
  | true =>
  cases e2:ak 2 (I:Int) with
  | false =>
   simp only [cond_true,cond_false]
   cases cond (allIn 0 40 B A) (dV B A) false<;>rfl
  | true =>
  simp only [cond_true]
  have r1:∀ {len:Nat} {g:Nat→Nat→Int} {m:Int},cond (allIn 0 m g len) (dV g len) false=jJ len g m:=fun {len g m}=>by
   rw [Bool.eq_iff_iff,Vo]
   constructor
   ·intro h;exact ah h
   ·rintro ⟨h1,h2⟩;exact aV h1 h2
  rw [r1,r1]
  cases jJ A B 40 with
  | false=>rfl
  | true =>
  cases jJ I J 60 with
  | false=>rfl
  | true =>
  cases aP (n:Int) (A:Int) with
  | false=>rfl
  | true=>rfl
 unfold faE aK
 rw [key]
theorem Zi {A I n:Nat} {M:Nat→Nat} (h:dS A I n M=true):iI A I n M=true:=by
 obtain ⟨h1,h2,h3,h4⟩:=DZ h
 exact aV (dU (by omega)) (aV (dU (by omega)) (aV (dU (by omega)) (bF fun i hi=>dU (by have:=h4 i hi;omega))))
end
end Go.Proofs.YtpfcfonplmhmiaaGreat
