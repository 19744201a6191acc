/- Stage 1: SpindleSees: the reference's Floats and Fits. -/
import Derived.Test.YtmmokemjibdinaaYSpE1
set_option linter.all false
set_option linter.unusedSimpArgs false
set_option linter.unusedVariables false
namespace Go.Proofs.Ytmmokemjibdinaa
open Go Go.Ev
set_option maxRecDepth 1000000
noncomputable section
theorem r24 (m v st d w : Int) (len : Nat) (f : Nat → Nat → Int) (load dens : Int) (hs : 1 ≤ m ∧ m ≤ 5000 ∧ 1 ≤ v ∧ v ≤ 5000 ∧ 1 ≤ st ∧ st ≤ 100 ∧ 1 ≤ d ∧ d ≤ 20 ∧ 1 ≤ w ∧ w ≤ st ∧ st ≤ 2 * w) (hp : 1 ≤ d * st ∧ d * st ≤ 2000) (hk : mOkB m len f load = true) (hm : 1 ≤ mI m f load ∧ mI m f load ≤ 6000) (hx : 1 ≤ dens ∧ dens ≤ 2000) (hv : 0 ≤ dens * v ∧ dens * v ≤ 10000000) (ht : 0 ≤ dens * (v + d * st) ∧ dens * (v + d * st) ≤ 14000000) : vc (runD0 Try.prog X53 300 24 (enc [spD m v st d w len f, .one (.i .i64 load), .one (.i .i64 dens)] 0) 1 (fun x => valP x (.int .i64 (rfI (1000 * mI m f load) (dens * v) (dens * (v + d * st)))))) (.go 21 (.sp .nil (.go 85 (.sp .nil .nil)))) := of_eq (q := ((cond (cond (cond (allI IntKind.i64 (cellsI IntKind.i64 f) len 1) true false) true false) (mOkB m len f load) false) = true ∧ ((small (dens * v)) = true ∧ (((not (iLe (dens * v) ((1000) * (mI m f load)))) = true → (((-2) : Int) = (rfI ((1000) * (mI m f load)) (dens * v) (dens * (v + (d * st)))))) ∧
  ((not (iLe (dens * v) ((1000) * (mI m f load)))) = false → ((small (d * st)) = true ∧ ((small (v + (d * st))) = true ∧ ((small (dens * (v + (d * st)))) = true ∧ (((not (iLe ((1000) * (mI m f load)) (dens * (v + (d * st))))) = true → (((-1) : Int) = (rfI ((1000) * (mI m f load)) (dens * v) (dens * (v + (d * st)))))) ∧
  ((not (iLe ((1000) * (mI m f load)) (dens * (v + (d * st))))) = false → (((0) : Int) = (rfI ((1000) * (mI m f load)) (dens * v) (dens * (v + (d * st))))))))))))))) (by kernel_rfl) (by (try simp only [iLe_t, iLe_f, iEq_t, iEq_f, small_t, small_f, cmin, cmax, not_t, not_f, boolEq_t, boolEq_f, ble_t, ble_f, blt_t, blt_f, beq_t, beq_f, iIn_t, iIn_f, allI_cells, cond_true, cond_false, true_and, and_true, eq_self]); (repeat' (first | exact True.intro | (with_reducible assumption) | refine And.intro ?_ ?_ | refine cond_mk ?_ ?_ | intro _)); all_goals (first | (with_reducible assumption) | (with_reducible rfl) | omega | rfl | exact rfI_2 (by omega) | exact rfI_1 (by omega) (by omega) | exact rfI_0 (by omega) (by omega) | (simp only [iLe_t, iLe_f, iEq_t, iEq_f, small_t, small_f, cmin, cmax, not_t, not_f, boolEq_t, boolEq_f, ble_t, ble_f, blt_t, blt_f, beq_t, beq_f, iIn_t, iIn_f, allI_cells, cond_true, cond_false, true_and, and_true, eq_self]; first | done | omega | (with_reducible assumption))))
def dOk (dens : Int) : Bool := cond (iLe 1 dens) (iLe dens 2000) false
theorem dOk_get {dens : Int} (h : dOk dens = true) : 1 ≤ dens ∧ dens ≤ 2000 := by
  obtain ⟨h1, h2⟩ := cond_tt h
  rw [iLe_t] at h1 h2
  exact ⟨h1, h2⟩
theorem dx_bd {m v st d w dens : Int} (hs : 1 ≤ m ∧ m ≤ 5000 ∧ 1 ≤ v ∧ v ≤ 5000 ∧ 1 ≤ st ∧ st ≤ 100 ∧ 1 ≤ d ∧ d ≤ 20 ∧ 1 ≤ w ∧ w ≤ st ∧ st ≤ 2 * w) (hp : 1 ≤ d * st ∧ d * st ≤ 2000) (hx : 1 ≤ dens ∧ dens ≤ 2000) :
    (0 ≤ dens * v ∧ dens * v ≤ 10000000) ∧ (0 ≤ dens * (v + d * st) ∧ dens * (v + d * st) ≤ 14000000) := by
  refine ⟨⟨Int.mul_nonneg (by omega) (by omega), ?_⟩, Int.mul_nonneg (by omega) (by omega), ?_⟩
  · have := Int.mul_le_mul (a := dens) (b := v) (c := 2000) (d := 5000) (by omega) (by omega) (by omega) (by omega); omega
  · have := Int.mul_le_mul (a := dens) (b := v + d * st) (c := 2000) (d := 7000) (by omega) (by omega) (by omega) (by omega); omega
def val24 : Val := fun das => match das with | [.st [.i .i64 m, .i .i64 v, .i .i64 st, .i .i64 d, .i .i64 w, .sl 1 len f], .one (.i .i64 load), .one (.i .i64 dens)] => some (cond (sOk m v st d w len f load) (dOk dens) false, .int .i64 (rfI (1000 * mI m f load) (dens * v) (dens * (v + d * st)))) | _ => none
theorem con24 : Con Try.prog 24 val24 := by
  intro das x hv
  unfold val24 at hv
  split at hv
  · rename_i m v st d w len f load dens
    have hb := congrArg Prod.fst (Option.some.inj hv)
    have hv := congrArg Prod.snd (Option.some.inj hv)
    subst hv
    obtain ⟨hb, hb2⟩ := cond_tt hb
    obtain ⟨h1, h2, h3, h4⟩ := sOk_get hb
    have hx := dOk_get hb2
    have b := dx_bd h1 h2 hx
    exact con_run drawnC X53_ok rfl (das := [spD m v st d w len f, .one (.i .i64 load), .one (.i .i64 dens)]) (r24 m v st d w len f load dens h1 h2 h3 h4 hx b.1 b.2)
  · cases hv
def X24 : Ext := conX [(24, cf val24), (53, cf val53)] false
theorem X24_ok : ExtOK Try.prog X24 := conX_ok (allCon_cons (con_ok con24) (allCon_cons (con_ok con53) allCon_nil))
end
end Go.Proofs.Ytmmokemjibdinaa
