/- Stage 2: 'awake' returns true: a contract. -/
import Derived.Test.YtjikkfiohppnfaaGreatYTx
import Derived.Test.YtjikkfiohppnfaaGreatYTaA1
set_option linter.all false
set_option linter.unusedSimpArgs false
set_option linter.unusedVariables false
namespace Go.Proofs.YtjikkfiohppnfaaGreat
open Go Go.Ev
set_option maxRecDepth 1000000
noncomputable section
def isTrueR (r : Option Res) : Bool := match r with | some (.v (.bool b) _) => b | _ => false
def XW : Ext := conX [(23, cfM valCk), (67, cfM val67), (20, cfM valAt), (26, cfNM (clVal (cBo 131 12 14 0 5 90 115 0))), (28, cfNM (clVal (cMe 131 10 12 135 136 (vrow [9,10]) 0))),
  (34, cfNM (clVal (cMi 210 (vsp [[1,1]])))), (47, cfNM (clVal (cTh 131 20 (vrow [0,2]) (vrow [0,2]) 0))), (43, cfNM (clVal (cPm 210 (dsp [[1,1]]) 1 true)))] false
theorem XW_ok : ExtOK Tryz.prog XW := conX_ok (allCon_cons (con_okM conCk) <| allCon_cons (con_okM con67) <| allCon_cons (con_okM conAt) <| allCon_cons (con_okNM (cl_con drawnC XT1s_ok k_bo1)) <| allCon_cons (con_okNM (cl_con drawnC XT1s_ok k_me1)) <|
  allCon_cons (con_okNM (cl_con drawnC XT1s_ok k_mi3)) <| allCon_cons (con_okNM (cl_con drawnC XT1s_ok k_th1)) <| allCon_cons (con_okNM (cl_con drawnC XT1s_ok k_pm1)) allCon_nil)
theorem awakeC : isTrueR (ev Tryz.prog XW 3000 (.call 19 [] (heap0 1))) = true := by kernel_rfl
noncomputable def valAw : Val := fun das => match das with | [] => some (true, .bool true) | _ => none
theorem conAw : Con Tryz.prog 19 valAw := by
  intro das v hv
  unfold valAw at hv
  split at hv
  · have hv := congrArg Prod.snd (Option.some.inj hv)
    subst hv
    refine ⟨rfl, ?_⟩
    cases hr : ev Tryz.prog XW 3000 (.call 19 [] (heap0 1)) with
    | none => have := awakeC; rw [hr] at this; cases this
    | some r =>
      have h := awakeC
      rw [hr] at h
      cases r with
      | v x H' =>
        cases x with
        | bool b =>
          have h : b = true := h
          subst h
          exact ⟨_, H', ev_call drawnC XW_ok hr, rfl⟩
        | _ => cases h
      | _ => cases h
  · cases hv
end
end Go.Proofs.YtjikkfiohppnfaaGreat
