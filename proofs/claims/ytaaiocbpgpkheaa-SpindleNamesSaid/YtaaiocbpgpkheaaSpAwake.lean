/- Stage 1: 'awake' returns true, and leaves all that there was as it was. -/
import Derived.Test.YtaaiocbpgpkheaaSpEnts
namespace Go.Proofs.Ytaaiocbpgpkheaa
open Go Go.Ev
set_option maxRecDepth 1000000
theorem awakeRun : isTrue (runV Try.prog (entX ents) 3000 17 []) = true := by kernel_rfl
theorem true_of {X : Ext} (hX : ExtOK Try.prog X) {n g : Nat} (h : isTrue (runV Try.prog X n g []) = true) (w : World) : Calls Try.prog g #[] w (fun e w' => e = .returned (.bool true) ∧ RowKit.Below w.heap.size w w') := by
  cases hv : runV Try.prog X n g [] with
  | none => rw [hv] at h; cases h
  | some v =>
    rw [hv] at h
    cases v with
    | bool b =>
      have h : b = true := h
      subst h
      exact (run_sound' mixed hX hv (AL.nil _) w).mono fun e w' ⟨x, R, h1, h2, h3⟩ => by cases h2; exact ⟨h1, h3⟩
    | _ => cases h
theorem awake_any (w : World) : Calls Try.prog 17 #[] w (fun e w' => e = .returned (.bool true) ∧ RowKit.Below w.heap.size w w') := true_of (entX_ok ents_ok) awakeRun w
#print axioms awake_any
end Go.Proofs.Ytaaiocbpgpkheaa
