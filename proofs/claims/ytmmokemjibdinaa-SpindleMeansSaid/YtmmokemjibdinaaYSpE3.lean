/- Stage 1: SpindleSees: the reference's Fits. -/
import Derived.Test.YtmmokemjibdinaaYSpE2
set_option linter.all false
set_option linter.unusedSimpArgs false
set_option linter.unusedVariables false
namespace Go.Proofs.Ytmmokemjibdinaa
open Go Go.Ev
set_option maxRecDepth 1000000
noncomputable section
def ftB (μ v st w dens k : Int) : Bool := cond (iLe (dens * (v + k * st - w)) (1000 * μ)) (iLe (1000 * μ) (dens * (v + k * st + w))) false
theorem ftB_t {μ v st w dens k : Int} (h : dens * (v + k * st - w) ≤ 1000 * μ) (h2 : 1000 * μ ≤ dens * (v + k * st + w)) : true = ftB μ v st w dens k := (cond_mk ((iLe_t _ _).mpr h) ((iLe_t _ _).mpr h2)).symm
theorem ftB_f {μ v st w dens k : Int} (h : ¬ dens * (v + k * st - w) ≤ 1000 * μ) : false = ftB μ v st w dens k := by unfold ftB; rw [(iLe_f _ _).mpr (by omega)]; rfl
theorem ftB_2 {μ v st w dens k : Int} (h : dens * (v + k * st - w) ≤ 1000 * μ) : iLe (1000 * μ) (dens * (v + k * st + w)) = ftB μ v st w dens k := by unfold ftB; rw [(iLe_t _ _).mpr h]; rfl
theorem r25 (m v st d w : Int) (len : Nat) (f : Nat → Nat → Int) (load dens k : Int) (hs : 1 ≤ m ∧ m ≤ 5000 ∧ 1 ≤ v ∧ v ≤ 5000 ∧ 1 ≤ st ∧ st ≤ 100 ∧ 1 ≤ d ∧ d ≤ 20 ∧ 1 ≤ w ∧ w ≤ st ∧ st ≤ 2 * w) (hp : 1 ≤ d * st ∧ d * st ≤ 2000) (hk : mOkB m len f load = true) (hm : 1 ≤ mI m f load ∧ mI m f load ≤ 6000) (ho : sOk m v st d w len f load = true) (hx : 1 ≤ dens ∧ dens ≤ 2000) (hk2 : 0 ≤ k ∧ k ≤ d) (hks : 0 ≤ k * st ∧ k * st ≤ 2000) (hf : rfI (1000 * mI m f load) (dens * v) (dens * (v + d * st)) = 0) (hb1 : -1000000 ≤ dens * (v + k * st - w) ∧ dens * (v + k * st - w) ≤ 15000000) (hb2 : -1000000 ≤ dens * (v + k * st + w) ∧ dens * (v + k * st + w) ≤ 15000000) : vc (runD0 Try.prog X24 300 25 (enc [spD m v st d w len f, .st [.i .i64 load, .i .i64 k], .one (.i .i64 dens)] 0) 1 (fun x => valP x (.bool (ftB (mI m f load) v st w dens k)))) (.go 1398281 (.sp (.go 82944 .nil) .nil)) := of_eq (q := ((cond (cond (cond (allI IntKind.i64 (cellsI IntKind.i64 f) len 1) true false) true false) (cond (sOk m v st d w len f load) (cond (iLe (1) dens) (iLe dens (2000)) false) false) false) = true ∧ ((not (iLe (0) k)) = false ∧ ((not (iLe (0) (rfI ((1000) * (mI m f load)) (dens * v) (dens * (v + (d * st)))))) = false ∧ ((cond (cond (cond (allI IntKind.i64 (cellsI IntKind.i64 f) len 1) true false) true false) (mOkB m len f load) false) = true ∧ ((small (k * st)) = true ∧ ((small (v + (k * st))) = true ∧ ((small ((v + (k * st)) - w)) = true ∧ ((small (dens * ((v + (k * st)) - w))) = true ∧ (((iLe (dens * ((v + (k * st)) - w)) ((1000) * (mI m f load))) = true → ((small ((v + (k * st)) + w)) = true ∧ ((small (dens * ((v + (k * st)) + w))) = true ∧ ((iLe ((1000) * (mI m f load)) (dens * ((v + (k * st)) + w))) = (ftB (mI m f load) v st w dens k))))) ∧
  ((iLe (dens * ((v + (k * st)) - w)) ((1000) * (mI m f load))) = false → (false = (ftB (mI m f load) v st w dens k))))))))))))) (by kernel_rfl) (by (try simp only [iLe_t, iLe_f, iEq_t, iEq_f, small_t, small_f, cmin, cmax, not_t, not_f, boolEq_t, boolEq_f, ble_t, ble_f, blt_t, blt_f, beq_t, beq_f, iIn_t, iIn_f, allI_cells, cond_true, cond_false, true_and, and_true, eq_self]); (repeat' (first | exact True.intro | (with_reducible assumption) | refine And.intro ?_ ?_ | refine cond_mk ?_ ?_ | intro _)); all_goals (first | (with_reducible assumption) | (with_reducible rfl) | omega | exact ftB_t (by omega) (by omega) | exact ftB_f (by omega) | exact ftB_2 (by omega) | (simp only [iLe_t, iLe_f, iEq_t, iEq_f, small_t, small_f, cmin, cmax, not_t, not_f, boolEq_t, boolEq_f, ble_t, ble_f, blt_t, blt_f, beq_t, beq_f, iIn_t, iIn_f, allI_cells, cond_true, cond_false, true_and, and_true, eq_self]; first | done | omega | (with_reducible assumption))))
def val25 : Val := fun das => match das with | [.st [.i .i64 m, .i .i64 v, .i .i64 st, .i .i64 d, .i .i64 w, .sl 1 len f], .st [.i .i64 load, .i .i64 k], .one (.i .i64 dens)] => some (cond (sOk m v st d w len f load) (cond (dOk dens) (cond (kOk d k) (iEq (rfI (1000 * mI m f load) (dens * v) (dens * (v + d * st))) 0) false) false) false, .bool (ftB (mI m f load) v st w dens k)) | _ => none
theorem con25 : Con Try.prog 25 val25 := by
  intro das x hv
  unfold val25 at hv
  split at hv
  · rename_i m v st d w len f load k dens
    have hb := congrArg Prod.fst (Option.some.inj hv)
    have hv := congrArg Prod.snd (Option.some.inj hv)
    subst hv
    obtain ⟨ho, hb⟩ := cond_tt hb
    obtain ⟨hx, hb⟩ := cond_tt hb
    obtain ⟨hk, hf⟩ := cond_tt hb
    obtain ⟨h1, h2, h3, h4⟩ := sOk_get ho
    have hx := dOk_get hx
    have hk := kOk_get hk
    rw [iEq_t] at hf
    have kb := (kst_bd h1 hk).2
    have b1 := Int.mul_le_mul (a := dens) (b := v + k * st + w) (c := 2000) (d := 7100) (by omega) (by omega) (by omega) (by omega)
    have b2 := Int.mul_nonneg (a := dens) (b := v + k * st + w) (by omega) (by omega)
    have b3 : dens * (v + k * st - w) ≤ dens * (v + k * st + w) := mul_mono (by omega) (by omega)
    have b4 : dens * (-100) ≤ dens * (v + k * st - w) := mul_mono (by omega) (by omega)
    exact con_run drawnC X24_ok rfl (das := [spD m v st d w len f, .st [.i .i64 load, .i .i64 k], .one (.i .i64 dens)]) (r25 m v st d w len f load dens k h1 h2 h3 h4 ho hx hk kb hf (by omega) (by omega))
  · cases hv
def XS : Ext := conX [(17, cf val17), (59, cf val22), (22, cf val22), (18, cf val18), (20, cf val20), (24, cf val24), (25, cf val25)] false
theorem XS_ok : ExtOK Try.prog XS := conX_ok (allCon_cons (con_ok con17) (allCon_cons (con_ok con59) (allCon_cons (con_ok con22) (allCon_cons (con_ok con18) (allCon_cons (con_ok con20) (allCon_cons (con_ok con24) (allCon_cons (con_ok con25) allCon_nil)))))))
end
end Go.Proofs.Ytmmokemjibdinaa
