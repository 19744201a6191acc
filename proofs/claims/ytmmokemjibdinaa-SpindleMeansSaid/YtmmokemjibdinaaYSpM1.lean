/- Stage 1: SpindleMeans: the reference's Fits, whatever is seen. -/
import Derived.Test.YtmmokemjibdinaaYSpE3
import Derived.Test.YtmmokemjibdinaaYEd
set_option linter.all false
set_option linter.unusedSimpArgs false
set_option linter.unusedVariables false
namespace Go.Proofs.Ytmmokemjibdinaa
open Go Go.Ev
set_option maxRecDepth 1000000
noncomputable section
theorem r25n (m v st d w : Int) (len : Nat) (f : Nat → Nat → Int) (load dens k : Int) (hs : 1 ≤ m ∧ m ≤ 5000 ∧ 1 ≤ v ∧ v ≤ 5000 ∧ 1 ≤ st ∧ st ≤ 100 ∧ 1 ≤ d ∧ d ≤ 20 ∧ 1 ≤ w ∧ w ≤ st ∧ st ≤ 2 * w) (hp : 1 ≤ d * st ∧ d * st ≤ 2000) (hk : mOkB m len f load = true) (hm : 1 ≤ mI m f load ∧ mI m f load ≤ 6000) (ho : sOk m v st d w len f load = true) (hx : 1 ≤ dens ∧ dens ≤ 2000) (hk2 : -2 ≤ k ∧ k ≤ d) (hR : rfI (1000 * mI m f load) (dens * v) (dens * (v + d * st)) = 0 ∨ rfI (1000 * mI m f load) (dens * v) (dens * (v + d * st)) = -1 ∨ rfI (1000 * mI m f load) (dens * v) (dens * (v + d * st)) = -2) (hc : k < 0 ∨ ¬ rfI (1000 * mI m f load) (dens * v) (dens * (v + d * st)) = 0) : vc (runD0 Try.prog X24 300 25 (enc [spD m v st d w len f, .st [.i .i64 load, .i .i64 k], .one (.i .i64 dens)] 0) 1 (fun x => valP x (.bool (iEq (rfI (1000 * mI m f load) (dens * v) (dens * (v + d * st))) k)))) (.go 5 (.sp .nil (.go 80 .nil))) := of_eq (q := ((cond (cond (cond (allI IntKind.i64 (cellsI IntKind.i64 f) len 1) true false) true false) (cond (sOk m v st d w len f load) (cond (iLe (1) dens) (iLe dens (2000)) false) false) false) = true ∧ (((not (iLe (0) k)) = true → ((iEq (rfI ((1000) * (mI m f load)) (dens * v) (dens * (v + (d * st)))) k) = (iEq (rfI ((1000) * (mI m f load)) (dens * v) (dens * (v + (d * st)))) k))) ∧
  ((not (iLe (0) k)) = false → ((not (iLe (0) (rfI ((1000) * (mI m f load)) (dens * v) (dens * (v + (d * st)))))) = true ∧ ((iEq (rfI ((1000) * (mI m f load)) (dens * v) (dens * (v + (d * st)))) k) = (iEq (rfI ((1000) * (mI m f load)) (dens * v) (dens * (v + (d * st)))) k))))))) (by kernel_rfl) (by (try simp only [iLe_t, iLe_f, iEq_t, iEq_f, small_t, small_f, cmin, cmax, not_t, not_f, boolEq_t, boolEq_f, ble_t, ble_f, blt_t, blt_f, beq_t, beq_f, iIn_t, iIn_f, allI_cells, cond_true, cond_false, true_and, and_true, eq_self]); (repeat' (first | exact True.intro | (with_reducible assumption) | refine And.intro ?_ ?_ | refine cond_mk ?_ ?_ | intro _)); all_goals (first | (with_reducible assumption) | (with_reducible rfl) | omega | rfl | (simp only [iLe_t, iLe_f, iEq_t, iEq_f, small_t, small_f, cmin, cmax, not_t, not_f, boolEq_t, boolEq_f, ble_t, ble_f, blt_t, blt_f, beq_t, beq_f, iIn_t, iIn_f, allI_cells, cond_true, cond_false, true_and, and_true, eq_self]; first | done | omega | (with_reducible assumption) | rfl)))
def kAll (d k : Int) : Bool := cond (iLe (-2) k) (iLe k d) false
theorem kAll_get {d k : Int} (h : kAll d k = true) : -2 ≤ k ∧ k ≤ d := by
  obtain ⟨h1, h2⟩ := cond_tt h
  rw [iLe_t] at h1 h2
  exact ⟨h1, h2⟩
theorem rfI_get (D lo hi : Int) : rfI D lo hi = 0 ∨ rfI D lo hi = -1 ∨ rfI D lo hi = -2 := by
  unfold rfI
  cases iLe lo D <;> cases iLe D hi <;> first | exact .inl rfl | exact .inr (.inl rfl) | exact .inr (.inr rfl)
/-- whether something fits a density -/
def fitB (μ v st d w dens k : Int) : Bool := cond (iLe 0 k) (cond (iEq (rfI (1000 * μ) (dens * v) (dens * (v + d * st))) 0) (ftB μ v st w dens k) (iEq (rfI (1000 * μ) (dens * v) (dens * (v + d * st))) k)) (iEq (rfI (1000 * μ) (dens * v) (dens * (v + d * st))) k)
theorem fitB_n {μ v st d w dens k : Int} (hc : k < 0 ∨ ¬ rfI (1000 * μ) (dens * v) (dens * (v + d * st)) = 0) : fitB μ v st d w dens k = iEq (rfI (1000 * μ) (dens * v) (dens * (v + d * st))) k := by
  unfold fitB
  rcases hc with h | h
  · rw [(iLe_f 0 k).mpr h]; rfl
  · rw [(iEq_f _ _).mpr h]; cases iLe 0 k <;> rfl
theorem fitB_p {μ v st d w dens k : Int} (h : 0 ≤ k) (h2 : rfI (1000 * μ) (dens * v) (dens * (v + d * st)) = 0) : fitB μ v st d w dens k = ftB μ v st w dens k := by
  unfold fitB
  rw [(iLe_t 0 k).mpr h, (iEq_t _ _).mpr h2]; rfl
def val25f : Val := fun das => match das with | [.st [.i .i64 m, .i .i64 v, .i .i64 st, .i .i64 d, .i .i64 w, .sl 1 len f], .st [.i .i64 load, .i .i64 k], .one (.i .i64 dens)] => some (cond (sOk m v st d w len f load) (cond (dOk dens) (kAll d k) false) false, .bool (fitB (mI m f load) v st d w dens k)) | _ => none
theorem con25f : Con Try.prog 25 val25f := by
  intro das x hv
  unfold val25f at hv
  split at hv
  · rename_i m v st d w len f load k dens
    have hb := congrArg Prod.fst (Option.some.inj hv)
    have hv := congrArg Prod.snd (Option.some.inj hv)
    subst hv
    obtain ⟨ho, hb⟩ := cond_tt hb
    obtain ⟨hx, hk⟩ := cond_tt hb
    obtain ⟨h1, h2, h3, h4⟩ := sOk_get ho
    have hx := dOk_get hx
    have hk := kAll_get hk
    by_cases hc : 0 ≤ k ∧ rfI (1000 * mI m f load) (dens * v) (dens * (v + d * st)) = 0
    · have hk' : 0 ≤ k ∧ k ≤ d := ⟨hc.1, hk.2⟩
      have kb := (kst_bd h1 hk').2
      have b1 := Int.mul_le_mul (a := dens) (b := v + k * st + w) (c := 2000) (d := 7100) (by omega) (by omega) (by omega) (by omega)
      have b2 := Int.mul_nonneg (a := dens) (b := v + k * st + w) (by omega) (by omega)
      have b3 : dens * (v + k * st - w) ≤ dens * (v + k * st + w) := mul_mono (by omega) (by omega)
      have b4 : dens * (-100) ≤ dens * (v + k * st - w) := mul_mono (by omega) (by omega)
      rw [fitB_p hc.1 hc.2]
      exact con_run drawnC X24_ok rfl (das := [spD m v st d w len f, .st [.i .i64 load, .i .i64 k], .one (.i .i64 dens)]) (r25 m v st d w len f load dens k h1 h2 h3 h4 ho hx hk' kb hc.2 (by omega) (by omega))
    · have hc : k < 0 ∨ ¬ rfI (1000 * mI m f load) (dens * v) (dens * (v + d * st)) = 0 := by
        by_cases q : 0 ≤ k
        · exact .inr fun e => hc ⟨q, e⟩
        · exact .inl (by omega)
      rw [fitB_n hc]
      exact con_run drawnC X24_ok rfl (das := [spD m v st d w len f, .st [.i .i64 load, .i .i64 k], .one (.i .i64 dens)]) (r25n m v st d w len f load dens k h1 h2 h3 h4 ho hx hk (rfI_get _ _ _) hc)
  · cases hv
def X25 : Ext := conX [(25, cf val25f)] false
theorem X25_ok : ExtOK Try.prog X25 := conX_ok (allCon_cons (con_ok con25f) allCon_nil)
end
end Go.Proofs.Ytmmokemjibdinaa
