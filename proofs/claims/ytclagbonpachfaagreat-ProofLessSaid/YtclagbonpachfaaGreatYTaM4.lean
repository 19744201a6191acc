/- Tables: the reference's error is the program's. -/
import Derived.Test.YtclagbonpachfaaGreatYTaF2
set_option linter.all false
set_option linter.unusedSimpArgs false
set_option linter.unusedVariables false
namespace Go.Proofs.YtclagbonpachfaaGreat
open Go Go.Ev
set_option maxRecDepth 1000000
noncomputable section
theorem ris_iff {len:Nat} {g:Nat→Nat→Int} {m:Int}:risB len g m=true↔allIn 0 m g len=true∧allUp g len=true:=by
  constructor
  · intro h
    refine ⟨allN_true fun i hi=>?_,allN_true fun i hi=>?_⟩
    · have:=riB_t.mp (allN_get h i hi)
      simp only [inB,decide_eq_true_eq];exact ⟨this.1,this.2.1⟩
    · have:=(riB_t.mp (allN_get h (i+1) (by omega))).2.2
      simp only [upB,decide_eq_true_eq]
      rcases this with q | q
      · omega
      · exact q
  · rintro ⟨h1,h2⟩
    refine allN_true fun i hi=>riB_t.mpr ?_
    have q1:=allN_get h1 i hi
    simp only [inB,decide_eq_true_eq] at q1
    refine ⟨q1.1,q1.2,?_⟩
    by_cases h0:i=0
    · exact .inl h0
    · have q2:=allN_get h2 (i-1) (by omega)
      simp only [upB,decide_eq_true_eq] at q2
      rw [show i-1+1=i by omega] at q2
      exact .inr q2
theorem row_eq (lm k:Nat) (g:Nat→Nat→Int):rowF lm k g=rowB lm k g:=by
  unfold rowF rowB
  by_cases h:k=lm
  · subst h;rfl
  · rw [(iEq_f _ _).mpr (by omega)];rfl
theorem fa_tab (lw:Nat) (fw:Nat→Nat→Int) (lm:Nat) (fm:Nat→Nat→Int) (n:Nat) (ls:Nat→Nat) (f:Nat→Nat→Nat→Int):faE lw fw lm fm n ls f=tabE lw fw lm fm n ls f:=by
  have hr:rowsF lm n ls f=allRowsB lm n ls f:=by
    unfold rowsF allRowsB
    congr 1
    funext i
    exact row_eq _ _ _
  have key:cond (preF lw fw lm fm n ls f) (cond (rowsF lm n ls f) 0 1) (1:Int)=cond (tabB lw fw lm fm n ls f) 0 1:=by
    rw [hr]
    unfold preF tabB sideB
    cases e1:iLe 2 (lw:Int) with
    | false=>rfl
    | true =>
    cases e2:iLe 2 (lm:Int) with
    | false =>
      simp only [cond_true,cond_false]
      cases cond (allIn 0 40 fw lw) (allUp fw lw) false<;>rfl
    | true =>
    simp only [cond_true]
    have r1:∀ {len:Nat} {g:Nat→Nat→Int} {m:Int},cond (allIn 0 m g len) (allUp g len) false=risB len g m:=fun {len g m}=>by
      rw [Bool.eq_iff_iff,ris_iff]
      constructor
      · intro h;exact cond_tt h
      · rintro ⟨h1,h2⟩;exact cond_mk h1 h2
    rw [r1,r1]
    cases risB lw fw 40 with
    | false=>rfl
    | true =>
    cases risB lm fm 60 with
    | false=>rfl
    | true =>
    cases iEq (n:Int) (lw:Int) with
    | false=>rfl
    | true=>rfl
  unfold faE tabE
  rw [key]
theorem th_sm {lw lm n:Nat} {ls:Nat→Nat} (h:thB lw lm n ls=true):smB lw lm n ls=true:=by
  obtain ⟨h1,h2,h3,h4⟩:=thB_get h
  exact cond_mk (ble_mk (by omega)) (cond_mk (ble_mk (by omega)) (cond_mk (ble_mk (by omega)) (allN_true fun i hi=>ble_mk (by have:=h4 i hi;omega))))
end
end Go.Proofs.YtclagbonpachfaaGreat
