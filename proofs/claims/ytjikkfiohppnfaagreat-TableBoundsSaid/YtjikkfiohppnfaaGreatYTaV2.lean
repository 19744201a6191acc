/- Tables: contracts: equal lists are the same to the reference: its Same. -/
import Derived.Test.YtjikkfiohppnfaaGreatYTaV1
set_option linter.all false
set_option linter.unusedSimpArgs false
set_option linter.unusedVariables false
namespace Go.Proofs.YtjikkfiohppnfaaGreat
open Go Go.Ev
set_option maxRecDepth 1000000
noncomputable section
theorem vs (len : Nat) (g g2 : Nat → Nat → Int) (hl : len ≤ 1000) (h1 : eqL len len g g2 = true) (h2 : eqL len len g2 g = true) : VC (runD0 Tryz.prog XBf 300 31 (enc [.one (.sl 1 len g), .one (.sl 1 len g2)] 0) 2 (fun v => valP v (.bool true))) (.go 1310785 .nil) := VC_of (((iEq ((len : Nat) : Int) ((len : Nat) : Int)) = true ∧ ((cond (cond (allI IntKind.i64 (cellsI IntKind.i64 g) len 1) (cond (allI IntKind.i64 (cellsI IntKind.i64 g2) len 1) true false) false) (eqL len len g g2) false) = true ∧ ((cond (cond (allI IntKind.i64 (cellsI IntKind.i64 g2) len 1) (cond (allI IntKind.i64 (cellsI IntKind.i64 g) len 1) true false) false) (eqL len len g2 g) false) = true ∧ ((not false) = true)))))
noncomputable def valSm : Val := fun das => match das with | [.one (.sl 1 len g), .one (.sl 1 len2 g2)] => some (eqL len len2 g g2, .bool true) | _ => none
theorem conSm : Con Tryz.prog 31 valSm := by
  intro das v hv
  unfold valSm at hv
  split at hv
  · rename_i len g len2 g2
    have hb := congrArg Prod.fst (Option.some.inj hv)
    have hq := eqL_t.mp hb
    have hv := congrArg Prod.snd (Option.some.inj hv)
    subst hv
    obtain ⟨rfl, hl, hq⟩ := hq
    exact con_runV drawnC XBf_ok rfl (das := [.one (.sl 1 len g), .one (.sl 1 len g2)]) (vs len g g2 hl hb (eqL_t.mpr ⟨rfl, hl, fun i hi => (hq i hi).symm⟩))
  · cases hv
end
end Go.Proofs.YtjikkfiohppnfaaGreat
