/- The closed statement of stage 2, TableNames, returns true: the chapter's examples, and the errors. No condition. -/
import Derived.Test.YtdgaghmjocokcaaGreatRows
import Derived.WalkKit
import Derived.Test.YtdgaghmjocokcaaGreatYTaAw
import Derived.Test.YtdgaghmjocokcaaGreatYTx
import Derived.Test.YtdgaghmjocokcaaGreatYEd
set_option linter.all false
set_option linter.unusedSimpArgs false
set_option linter.unusedVariables false
namespace Go.Proofs.YtdgaghmjocokcaaGreat
open Go Go.Ev Go.ChangeShapes Go.WideShapes Go.ChangeAt Go.RowKit
set_option maxRecDepth 1000000
noncomputable section
theorem true_of {X : Ext} (hX : ExtOK Tryz.prog X) {n g : Nat} (h : isTrue (runV Tryz.prog X n g []) = true) (w : World) : Calls Tryz.prog g #[] w (fun e w' => e = .returned (.bool true) ∧ RowKit.Below w.heap.size w w') := by
  cases hv : runV Tryz.prog X n g [] with
  | none => rw [hv] at h; cases h
  | some v =>
    rw [hv] at h
    cases v with
    | bool b =>
      have h : b = true := h
      subst h
      exact (run_sound' mixedC hX hv (AL.nil _) w).mono fun e w' ⟨x, R, h1, h2, h3⟩ => by cases h2; exact ⟨h1, h3⟩
    | _ => cases h
def XN : Ext := conX [(23, cfM valCk), (67, cfM val67), (20, cfM valAt), (26, cfM valBo), (19, cf valAw),
  (34, cfOr (cfNM (clVal (cMi 131 (vsp [])))) (cfNM (clVal (cMi 150 (vsp [[0,1]]))))), (47, cfNM (clVal (cTh 131 1 (vrow [0,1,2]) (vrow [0,1,2]) 0)))] false
theorem XN_ok : ExtOK Tryz.prog XN := conX_ok (allCon_cons (con_okM conCk) <| allCon_cons (con_okM con67) <| allCon_cons (con_okM conAt) <| allCon_cons (con_okM conBo) <| allCon_cons (con_ok conAw) <|
  allCon_cons (cfOr_ok (con_okNM (cl_con drawnC XT1s_ok k_mi1)) (con_okNM (cl_con drawnC XT1s_ok k_mi2))) <| allCon_cons (con_okNM (cl_con drawnC XT1s_ok k_th2)) allCon_nil)
theorem namesRun : isTrue (runV Tryz.prog XN 3000 8 []) = true := by kernel_rfl
theorem names_any (w : World) : Calls Tryz.prog 8 #[] w (fun e w' => e = .returned (.bool true) ∧ Below w.heap.size w w') := true_of XN_ok namesRun w
end
theorem own : ownKnob Tryz.prog.godebug = none := by kernel_rfl
theorem laidOut : laidOutB Tryz.prog = true := by kernel_rfl
theorem names_lifted (os : Os) (started : os.Started) (H : Type) (enc : TypeId × Value → H) :
    ReturnsInHanded {} Tryz.checked os 8 .any (Rows.tableNamesSpec.pre6 enc Tryz.prog Tryz.f8 Rows.tableNamesRow.domain false) (Rows.tableNamesSpec.post enc Tryz.prog Tryz.f8 false true false false) := by
  refine returnsInHanded_of_change (C := Tryz.checked) own started (by kernel_rfl) Tryz.func8
    (ChangeSpec.witness6 (enc := enc) (C := Tryz.checked) false ⟨#[], #[], []⟩ 8 (by kernel_rfl) (by kernel_rfl) (by kernel_rfl) (by kernel_rfl)) ?_
  intro W base args ds gs before hval0 hW hcnd _
  have hW' := hW
  obtain ⟨p, q, hA0, hV, rfl, hfz, hnd⟩ := hW
  have hA : DataW.TrodAll enc Tryz.prog W 0 (fun _ => true) true Tryz.f8.params.toList args.toList ds p := hA0
  rw [Tryz.params8] at hA
  obtain ⟨rfl, rfl, rfl⟩ := trodAll_none hA
  refine (names_any W).mono fun e W' ⟨he, hb⟩ => ?_
  exact ⟨_, he, Law.law_post laidOut (tb := 4) (by kernel_rfl) Tryz.underlying4 (fun t ht => by rw [Tryz.params8] at ht; cases ht) rfl hW' rfl rfl rfl hb⟩
theorem tableNames_holds : Rows.TableNamesSaid :=
  OpenClaim.holds_of_wide 8 Tryz.f8 rfl rfl rfl rfl rfl rfl rfl ⟨rfl, rfl, rfl, rfl, rfl⟩ rfl rfl rfl rfl rfl (by kernel_rfl) Tryz.func8 (by kernel_rfl)
    (of_decide_eq_true (by kernel_rfl)) (by unfold Func.isWrapper; first | (rw [if_pos (by decide +kernel)]; kernel_rfl) | (rw [if_neg (by decide +kernel)]; exact ⟨rfl, rfl⟩))
    (fun os started H enc _ => names_lifted os started H enc)
#print axioms tableNames_holds
end Go.Proofs.YtdgaghmjocokcaaGreat
