/- Stage 1: SpindleDenser: what is called, and the masses. -/
import Derived.Test.YtmmokemjibdinaaYCa
import Derived.Test.YtmmokemjibdinaaYSpAw
set_option linter.all false
set_option linter.unusedSimpArgs false
set_option linter.unusedVariables false
namespace Go.Proofs.Ytmmokemjibdinaa
open Go Go.Ev
set_option maxRecDepth 1000000
noncomputable section
theorem r53a (m v st d w : Int) (len : Nat) (f : Nat → Nat → Int) (load : Int) (h0 : load = 0) (h1 : 1 ≤ m) (h2 : m ≤ 5000) : vc (runD0 Try.prog noExt 300 53 (enc [spD m v st d w len f, .one (.i .i64 load)] 0) 1 (fun x => valP x (.int .i64 (1000 * m)))) (.go 21 .nil) := of_eq (q := ((iEq load (0)) = true ∧ ((small ((1000) * m)) = true ∧ ((((1000) * m) : Int) = ((1000) * m))))) (by kernel_rfl) (by (try simp only [iLe_t, iLe_f, iEq_t, iEq_f, small_t, small_f, cmin, cmax, not_t, not_f, boolEq_t, boolEq_f, ble_t, ble_f, blt_t, blt_f, beq_t, beq_f, iIn_t, iIn_f, allI_cells, cond_true, cond_false, true_and, and_true, eq_self]); (repeat' (first | exact True.intro | (with_reducible assumption) | refine And.intro ?_ ?_ | refine cond_mk ?_ ?_ | intro _)); all_goals (first | omega | (with_reducible assumption) | rfl | (simp only [iLe_t, iLe_f, iEq_t, iEq_f, small_t, small_f, cmin, cmax, not_t, not_f, boolEq_t, boolEq_f, ble_t, ble_f, blt_t, blt_f, beq_t, beq_f, iIn_t, iIn_f, allI_cells, cond_true, cond_false, true_and, and_true, eq_self]; first | done | omega | (with_reducible assumption) | rfl)))
theorem r53b (m v st d w : Int) (len : Nat) (f : Nat → Nat → Int) (load : Int) (h0 : 1 ≤ load) (hl : load ≤ len) (h6 : len ≤ 6) (h1 : 1 ≤ m) (h2 : m ≤ 5000) (h3 : 1 ≤ f (Int.toNat (load - 1)) 0) (h4 : f (Int.toNat (load - 1)) 0 ≤ 1000) : vc (runD0 Try.prog noExt 300 53 (enc [spD m v st d w len f, .one (.i .i64 load)] 0) 1 (fun x => valP x (.int .i64 (1000 * (m + f (Int.toNat (load - 1)) 0))))) (.go 1366 .nil) := of_eq (q := ((iEq load (0)) = false ∧ ((small (load - (1))) = true ∧ ((iIn (load - (1)) len) = true ∧ ((small (m + (f ((load - 1).toNat) 0))) = true ∧ ((small ((1000) * (m + (f ((load - 1).toNat) 0)))) = true ∧ ((((1000) * (m + (f ((load - 1).toNat) 0))) : Int) = ((1000) * (m + (f ((load - 1).toNat) 0)))))))))) (by kernel_rfl) (by (try simp only [iLe_t, iLe_f, iEq_t, iEq_f, small_t, small_f, cmin, cmax, not_t, not_f, boolEq_t, boolEq_f, ble_t, ble_f, blt_t, blt_f, beq_t, beq_f, iIn_t, iIn_f, allI_cells, cond_true, cond_false, true_and, and_true, eq_self]); (repeat' (first | exact True.intro | (with_reducible assumption) | refine And.intro ?_ ?_ | refine cond_mk ?_ ?_ | intro _)); all_goals (first | omega | (with_reducible assumption) | rfl | (simp only [iLe_t, iLe_f, iEq_t, iEq_f, small_t, small_f, cmin, cmax, not_t, not_f, boolEq_t, boolEq_f, ble_t, ble_f, blt_t, blt_f, beq_t, beq_f, iIn_t, iIn_f, allI_cells, cond_true, cond_false, true_and, and_true, eq_self]; first | done | omega | (with_reducible assumption) | rfl)))
def val53 : Val := fun das => match das with | [.st [.i .i64 m, .i .i64 _, .i .i64 _, .i .i64 _, .i .i64 _, .sl 1 len f], .one (.i .i64 load)] => some (mOkB m len f load, .int .i64 (1000 * mI m f load)) | _ => none
theorem con53 : Con Try.prog 53 val53 := by
  intro das x hv
  unfold val53 at hv
  split at hv
  · rename_i m v st d w len f load
    have hb := congrArg Prod.fst (Option.some.inj hv)
    have hv := congrArg Prod.snd (Option.some.inj hv)
    subst hv
    have hk : mOk m len f load := of_decide_eq_true hb
    unfold mOk at hk
    by_cases e : load = 0
    · have : mI m f load = m := by unfold mI; rw [iEq_eq, show decide (load = 0) = true from decide_eq_true e]; rfl
      rw [this]
      exact con_run drawnC noExt_ok rfl (das := [spD m v st d w len f, .one (.i .i64 load)]) (r53a m v st d w len f load e (by omega) (by omega))
    · have : mI m f load = m + f (Int.toNat (load - 1)) 0 := by unfold mI; rw [iEq_eq, show decide (load = 0) = false from decide_eq_false e]; rfl
      rw [this]
      exact con_run drawnC noExt_ok rfl (das := [spD m v st d w len f, .one (.i .i64 load)]) (r53b m v st d w len f load (by omega) (by omega) (by omega) (by omega) (by omega) (by omega) (by omega))
  · cases hv
def XL : Ext := conX [(17, cf val17), (59, cf val22), (53, cf val53), (18, cf val18), (20, cf val20), (27, cf val27)] false
theorem XL_ok : ExtOK Try.prog XL := conX_ok (allCon_cons (con_ok con17) (allCon_cons (con_ok con59) (allCon_cons (con_ok con53) (allCon_cons (con_ok con18) (allCon_cons (con_ok con20) (allCon_cons (con_ok con27) allCon_nil))))))
end
end Go.Proofs.Ytmmokemjibdinaa
