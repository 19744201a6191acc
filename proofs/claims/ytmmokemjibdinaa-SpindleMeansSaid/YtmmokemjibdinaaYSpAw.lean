/- Stage 1: 'awake' as a contract. -/
import Derived.Test.YtmmokemjibdinaaYSpEnts
import Derived.Test.YtmmokemjibdinaaYCa
set_option linter.all false
set_option linter.unusedSimpArgs false
set_option linter.unusedVariables false
namespace Go.Proofs.Ytmmokemjibdinaa
open Go Go.Ev
set_option maxRecDepth 1000000
noncomputable section
def isTrueR (r : Option Res) : Bool := match r with | some (.v (.bool b) _) => b | _ => false
theorem awakeC : isTrueR (ev Try.prog (entX ents) 3000 (.call 17 [] (heap0 1))) = true := by kernel_rfl
def val17 : Val := fun das => match das with | [] => some (true, .bool true) | _ => none
theorem con17 : Con Try.prog 17 val17 := by
  intro das v hv
  unfold val17 at hv
  split at hv
  · have hv := congrArg Prod.snd (Option.some.inj hv)
    subst hv
    refine ⟨rfl, ?_⟩
    cases hr : ev Try.prog (entX ents) 3000 (.call 17 [] (heap0 1)) with
    | none => have := awakeC; rw [hr] at this; cases this
    | some r =>
      have h := awakeC
      rw [hr] at h
      cases r with
      | v x H' =>
        cases x with
        | bool b =>
          have h : b = true := h
          subst h
          exact ⟨_, H', ev_call drawnC (entX_ok ents_ok) hr, rfl⟩
        | _ => cases h
      | _ => cases h
  · cases hv
end
end Go.Proofs.Ytmmokemjibdinaa
