/- Stage 1: contracts: what is valid. -/
import Derived.Test.YtmmokemjibdinaaProg
import Derived.Test.YtmmokemjibdinaaYEd
set_option linter.all false
set_option linter.unusedSimpArgs false
set_option linter.unusedVariables false
namespace Go.Proofs.Ytmmokemjibdinaa
open Go Go.Ev
set_option maxRecDepth 1000000
noncomputable section
theorem mixedC : Try.prog.follows .mixedOrders = true := by kernel_rfl
theorem drawnC : DrawnSound Try.prog := drawn_sound mixedC
/-! a weight -/
def wOk (f : Nat → Nat → Int) (i : Nat) : Bool := decide (1 ≤ f i 0 ∧ f i 0 ≤ 1000)
def allW (len : Nat) (f : Nat → Nat → Int) : Bool := allN (wOk f) len
/-! all[int] over the weights -/
def s64 (len : Nat) (f : Nat → Nat → Int) (k : Nat) : LS := ⟨[.func 65 [] [], .fz true 0 (cellsI .i64 f) len 1, .int .i64 len, .int .i64 k], []⟩
def b64 : Code := sub [1,0,1,0,0] (bodyOf Try.prog 64)
def lt64 : LT := ⟨[1,7,8,9],[],[4],2⟩
def das64 (len : Nat) (f : Nat → Nat → Int) : List DA := [.one (.sl 1 len f), .fn 65]
theorem r64a (len k : Nat) (f : Nat → Nat → Int) (h1 : k < len) (h2 : len ≤ 1000000) (h3 : 1 ≤ f k 0) (h4 : f k 0 ≤ 1000) : vc (roundD Try.prog noExt 300 b64 (heap0 2) lt64 18 100 (s64 len f k) (.next (s64 len f (k + 1)))) (.go 90133 .nil) := of_eq (q := ((not (iLe ((len : Nat) : Int) ((k : Nat) : Int))) = true ∧ ((Nat.blt k len) = true ∧ ((iLe (1) (f k 0)) = true ∧ ((not (iLe (f k 0) (1000))) = false ∧ ((small (((k : Nat) : Int) + (1))) = true ∧ ((((V.func 65 [] [] : V) = V.func 65 [] []) ∧ (((V.fz true 0 (cellsI IntKind.i64 f) len 1 : V) = V.fz true 0 (cellsI IntKind.i64 f) len 1) ∧ (((((len : Nat) : Int) : Int) = ((len : Nat) : Int)) ∧ ((((((k : Nat) : Int) + (1)) : Int) = (((k + 1) : Nat) : Int)) ∧ True)))) ∧ True))))))) (by kernel_rfl) (by (try simp only [iLe_t, iLe_f, iEq_t, iEq_f, small_t, small_f, cmin, cmax, not_t, not_f, boolEq_t, boolEq_f, ble_t, ble_f, blt_t, blt_f, beq_t, beq_f, iIn_t, iIn_f, allI_cells, cond_true, cond_false, true_and, and_true, eq_self]); (repeat' (first | exact True.intro | (with_reducible assumption) | refine And.intro ?_ ?_ | refine cond_mk ?_ ?_ | intro _)); all_goals (first | omega | (with_reducible assumption) | rfl | (simp only [iLe_t, iLe_f, iEq_t, iEq_f, small_t, small_f, cmin, cmax, not_t, not_f, boolEq_t, boolEq_f, ble_t, ble_f, blt_t, blt_f, beq_t, beq_f, iIn_t, iIn_f, allI_cells, cond_true, cond_false, true_and, and_true, eq_self]; first | done | omega | (with_reducible assumption) | rfl)))
theorem r64b (len k : Nat) (f : Nat → Nat → Int) (h1 : k < len) (h2 : len ≤ 1000000) (h3 : ¬ (1 ≤ f k 0 ∧ f k 0 ≤ 1000)) : vc (roundD Try.prog noExt 300 b64 (heap0 2) lt64 18 100 (s64 len f k) (.ret ⟨[.bool false], []⟩)) (.go 21 (.sp (.go 320 .nil) .nil)) := of_eq (q := ((not (iLe ((len : Nat) : Int) ((k : Nat) : Int))) = true ∧ ((Nat.blt k len) = true ∧ (((iLe (1) (f k 0)) = true → ((not (iLe (f k 0) (1000))) = true ∧ (((false = false) ∧ True) ∧ True))) ∧
  ((iLe (1) (f k 0)) = false → (((false = false) ∧ True) ∧ True)))))) (by kernel_rfl) (by (try simp only [iLe_t, iLe_f, iEq_t, iEq_f, small_t, small_f, cmin, cmax, not_t, not_f, boolEq_t, boolEq_f, ble_t, ble_f, blt_t, blt_f, beq_t, beq_f, iIn_t, iIn_f, allI_cells, cond_true, cond_false, true_and, and_true, eq_self]); (repeat' (first | exact True.intro | (with_reducible assumption) | refine And.intro ?_ ?_ | refine cond_mk ?_ ?_ | intro _)); all_goals (first | omega | (with_reducible assumption) | rfl | (simp only [iLe_t, iLe_f, iEq_t, iEq_f, small_t, small_f, cmin, cmax, not_t, not_f, boolEq_t, boolEq_f, ble_t, ble_f, blt_t, blt_f, beq_t, beq_f, iIn_t, iIn_f, allI_cells, cond_true, cond_false, true_and, and_true, eq_self]; first | done | omega | (with_reducible assumption) | rfl)))
theorem r64c (len k : Nat) (f : Nat → Nat → Int) (h1 : ¬ k < len) : vc (roundD Try.prog noExt 300 b64 (heap0 2) lt64 18 100 (s64 len f k) (.exit 0 ⟨[], []⟩)) (.go 6 .nil) := of_eq (q := ((not (iLe ((len : Nat) : Int) ((k : Nat) : Int))) = false ∧ (True ∧ True))) (by kernel_rfl) (by (try simp only [iLe_t, iLe_f, iEq_t, iEq_f, small_t, small_f, cmin, cmax, not_t, not_f, boolEq_t, boolEq_f, ble_t, ble_f, blt_t, blt_f, beq_t, beq_f, iIn_t, iIn_f, allI_cells, cond_true, cond_false, true_and, and_true, eq_self]); (repeat' (first | exact True.intro | (with_reducible assumption) | refine And.intro ?_ ?_ | refine cond_mk ?_ ?_ | intro _)); all_goals (first | omega | (with_reducible assumption) | rfl | (simp only [iLe_t, iLe_f, iEq_t, iEq_f, small_t, small_f, cmin, cmax, not_t, not_f, boolEq_t, boolEq_f, ble_t, ble_f, blt_t, blt_f, beq_t, beq_f, iIn_t, iIn_f, allI_cells, cond_true, cond_false, true_and, and_true, eq_self]; first | done | omega | (with_reducible assumption) | rfl)))
theorem f64a  : vc (fromD Try.prog noExt 300 64 [1,0,1,0] (Lv.res lt64 18 (endH (heap0 2) lt64 100 (.exit 0 ⟨[], []⟩)) (.exit 0 ⟨[], []⟩)) (.bool true)) .nil := of_eq (q := (true = true)) (by kernel_rfl) (by (try simp only [iLe_t, iLe_f, iEq_t, iEq_f, small_t, small_f, cmin, cmax, not_t, not_f, boolEq_t, boolEq_f, ble_t, ble_f, blt_t, blt_f, beq_t, beq_f, iIn_t, iIn_f, allI_cells, cond_true, cond_false, true_and, and_true, eq_self]); (repeat' (first | exact True.intro | (with_reducible assumption) | refine And.intro ?_ ?_ | refine cond_mk ?_ ?_ | intro _)); all_goals (first | omega | (with_reducible assumption) | rfl | (simp only [iLe_t, iLe_f, iEq_t, iEq_f, small_t, small_f, cmin, cmax, not_t, not_f, boolEq_t, boolEq_f, ble_t, ble_f, blt_t, blt_f, beq_t, beq_f, iIn_t, iIn_f, allI_cells, cond_true, cond_false, true_and, and_true, eq_self]; first | done | omega | (with_reducible assumption) | rfl)))
theorem f64b  : vc (fromD Try.prog noExt 300 64 [1,0,1,0] (Lv.res lt64 18 (endH (heap0 2) lt64 100 (.ret ⟨[.bool false], []⟩)) (.ret ⟨[.bool false], []⟩)) (.bool false)) .nil := of_eq (q := (false = false)) (by kernel_rfl) (by (try simp only [iLe_t, iLe_f, iEq_t, iEq_f, small_t, small_f, cmin, cmax, not_t, not_f, boolEq_t, boolEq_f, ble_t, ble_f, blt_t, blt_f, beq_t, beq_f, iIn_t, iIn_f, allI_cells, cond_true, cond_false, true_and, and_true, eq_self]); (repeat' (first | exact True.intro | (with_reducible assumption) | refine And.intro ?_ ?_ | refine cond_mk ?_ ?_ | intro _)); all_goals (first | omega | (with_reducible assumption) | rfl | (simp only [iLe_t, iLe_f, iEq_t, iEq_f, small_t, small_f, cmin, cmax, not_t, not_f, boolEq_t, boolEq_f, ble_t, ble_f, blt_t, blt_f, beq_t, beq_f, iIn_t, iIn_f, allI_cells, cond_true, cond_false, true_and, and_true, eq_self]; first | done | omega | (with_reducible assumption) | rfl)))
def a64 (len : Nat) (f : Nat → Nat → Int) : EA := toA (toLoop Try.prog noExt 300 64 [1,0,1,0] (das64 len f))
theorem to64 (len : Nat) (f : Nat → Nat → Int) : toLoop Try.prog noExt 300 64 [1,0,1,0] (das64 len f) = some (a64 len f, heap0 2) := by kernel_rfl
theorem ent64 (len : Nat) (f : Nat → Nat → Int) : entOk (heap0 2) lt64 18 100 (a64 len f) = true := by kernel_rfl
theorem ent64P (len : Nat) (f : Nat → Nat → Int) : entP (heap0 2) lt64 (a64 len f) (s64 len f 0) := of_eq (q := (V.func 65 [] [] = V.func 65 [] [] ∧ V.fz true 0 (cellsI .i64 f) len 1 = V.fz true 0 (cellsI .i64 f) len 1 ∧ (len : Int) = len ∧ (0 : Int) = 0 ∧ True) ∧ True) (by kernel_rfl) ⟨⟨rfl, rfl, rfl, rfl, trivial⟩, trivial⟩
def val64 : Val := fun das => match das with | [.one (.sl 1 len f), .fn 65] => some (Nat.ble len 1000000, .bool (allW len f)) | _ => none
theorem con64 : Con Try.prog 64 val64 := by
  intro das v hv
  unfold val64 at hv
  split at hv
  · rename_i len f
    have hb : Nat.ble len 1000000 = true := by injection hv with hv; injection hv
    have hv : V.bool (allW len f) = v := by injection hv with hv; injection hv
    subst hv
    have hb := Nat.le_of_ble_eq_true hb
    refine ⟨rfl, ?_⟩
    rcases first_bad (wOk f) len with h | ⟨N, h1, h2, h3⟩
    · have e : allW len f = true := allN_true h
      rw [e]
      refine con_loop drawnC noExt_ok (das := das64 len f) (by kernel_rfl) (by kernel_rfl) (to64 len f) (ent64 len f) (ent64P len f) (lv := .exit 0 ⟨[], []⟩) (loop_rule (body := b64) (fun _ e => by cases e) len (s64 len f) (fun k hk => ?_) ?_) f64a
      · have := h k hk
        simp only [wOk, decide_eq_true_eq] at this
        exact round_of drawnC noExt_ok (r64a len k f hk hb this.1 this.2) (by kernel_rfl) (by kernel_rfl)
      · exact round_of drawnC noExt_ok (r64c len len f (by omega)) (by kernel_rfl) (by kernel_rfl)
    · have e : allW len f = false := allN_false h1 h3
      rw [e]
      refine con_loop drawnC noExt_ok (das := das64 len f) (by kernel_rfl) (by kernel_rfl) (to64 len f) (ent64 len f) (ent64P len f) (lv := .ret ⟨[.bool false], []⟩) (loop_rule (body := b64) (fun _ e => by cases e) N (s64 len f) (fun k hk => ?_) ?_) f64b
      · have := h2 k hk
        simp only [wOk, decide_eq_true_eq] at this
        exact round_of drawnC noExt_ok (r64a len k f (by omega) hb this.1 this.2) (by kernel_rfl) (by kernel_rfl)
      · simp only [wOk, decide_eq_false_iff_not] at h3
        exact round_of drawnC noExt_ok (r64b len N f h1 hb h3) (by kernel_rfl) (by kernel_rfl)
  · cases hv
end
end Go.Proofs.Ytmmokemjibdinaa
/- Stage 1: contracts: the error of a spindle. -/
namespace Go.Proofs.Ytmmokemjibdinaa
open Go Go.Ev
set_option maxRecDepth 1000000
noncomputable section
/-! a spindle -/
def spD (m v st d w : Int) (len : Nat) (f : Nat → Nat → Int) : DA := .st [.i .i64 m, .i .i64 v, .i .i64 st, .i .i64 d, .i .i64 w, .sl 1 len f]
def stemB (m v st d w : Int) : Bool := decide (1 ≤ m ∧ m ≤ 5000 ∧ 1 ≤ v ∧ v ≤ 5000 ∧ 1 ≤ st ∧ st ≤ 100 ∧ 1 ≤ d ∧ d ≤ 20 ∧ 1 ≤ w ∧ w ≤ st ∧ st ≤ 2 * w)
theorem stemB_t {m v st d w : Int} (h : 1 ≤ m ∧ m ≤ 5000 ∧ 1 ≤ v ∧ v ≤ 5000 ∧ 1 ≤ st ∧ st ≤ 100 ∧ 1 ≤ d ∧ d ≤ 20 ∧ 1 ≤ w ∧ w ≤ st ∧ st ≤ 2 * w) : true = stemB m v st d w := (decide_eq_true h).symm
theorem stemB_f {m v st d w : Int} (h : ¬ (1 ≤ m ∧ m ≤ 5000 ∧ 1 ≤ v ∧ v ≤ 5000 ∧ 1 ≤ st ∧ st ≤ 100 ∧ 1 ≤ d ∧ d ≤ 20 ∧ 1 ≤ w ∧ w ≤ st ∧ st ≤ 2 * w)) : false = stemB m v st d w := (decide_eq_false h).symm
def ckI (len : Nat) (a b : Bool) : Int := cond (Nat.ble len 6) (cond a (cond b 0 1) 1) 3
def ckS (m v st d w : Int) (len : Nat) (f : Nat → Nat → Int) : Int := ckI len (allW len f) (stemB m v st d w)
theorem ckS_big {m v st d w : Int} {len : Nat} {f : Nat → Nat → Int} (h : 6 < len) : 3 = ckS m v st d w len f := by
  unfold ckS ckI; rw [show Nat.ble len 6 = false by rw [ble_f]; exact h]; rfl
theorem ckS_small {m v st d w : Int} {len : Nat} {f : Nat → Nat → Int} (h : len ≤ 6) : ckS m v st d w len f = cond (allW len f) (cond (stemB m v st d w) 0 1) 1 := by
  unfold ckS ckI; rw [show Nat.ble len 6 = true by rw [ble_t]; exact h]; rfl
theorem r66 (m v st d w : Int) (len : Nat) (f : Nat → Nat → Int) : vc (runD0 Try.prog noExt 300 66 (enc [spD m v st d w len f] 0) 1 (fun x => valP x (.bool (stemB m v st d w)))) (.sp (.go 64 (.sp (.go 16 (.sp (.go 256 (.sp (.go 16 (.sp (.go 256 (.sp (.go 16 (.sp (.go 256 (.sp (.go 256 (.sp (.go 256 (.sp (.go 80 .nil) .nil)) .nil)) .nil)) .nil)) .nil)) .nil)) .nil)) .nil)) .nil)) .nil) := of_eq (q := (((iLe (1) m) = true → (((iLe m (5000)) = true → (((iLe (1) v) = true → (((iLe v (5000)) = true → (((iLe (1) st) = true → (((iLe st (100)) = true → (((iLe (1) d) = true → (((iLe d (20)) = true → (((iLe (1) w) = true → (((iLe w st) = true → ((small ((2) * w)) = true ∧ ((iLe st ((2) * w)) = (stemB m v st d w)))) ∧
  ((iLe w st) = false → (false = (stemB m v st d w))))) ∧
  ((iLe (1) w) = false → (false = (stemB m v st d w))))) ∧
  ((iLe d (20)) = false → (false = (stemB m v st d w))))) ∧
  ((iLe (1) d) = false → (false = (stemB m v st d w))))) ∧
  ((iLe st (100)) = false → (false = (stemB m v st d w))))) ∧
  ((iLe (1) st) = false → (false = (stemB m v st d w))))) ∧
  ((iLe v (5000)) = false → (false = (stemB m v st d w))))) ∧
  ((iLe (1) v) = false → (false = (stemB m v st d w))))) ∧
  ((iLe m (5000)) = false → (false = (stemB m v st d w))))) ∧
  ((iLe (1) m) = false → (false = (stemB m v st d w))))) (by kernel_rfl) (by (try simp only [iLe_t, iLe_f, iEq_t, iEq_f, small_t, small_f, cmin, cmax, not_t, not_f, boolEq_t, boolEq_f, ble_t, ble_f, blt_t, blt_f, beq_t, beq_f, iIn_t, iIn_f, allI_cells, cond_true, cond_false, true_and, and_true, eq_self]); (repeat' (first | exact True.intro | refine And.intro ?_ ?_ | intro _)); all_goals (first | omega | exact stemB_f (by omega) | exact stemB_t (by omega) | (unfold stemB; rw [iLe_eq]; exact decide_eq_decide.2 (by omega))))
def val66 : Val := fun das => match das with | [.st [.i .i64 m, .i .i64 v, .i .i64 st, .i .i64 d, .i .i64 w, .sl 1 _ _]] => some (true, .bool (stemB m v st d w)) | _ => none
theorem con66 : Con Try.prog 66 val66 := by
  intro das v hv
  unfold val66 at hv
  split at hv
  · rename_i m v st d w len f
    have hv := congrArg Prod.snd (Option.some.inj hv)
    subst hv
    exact con_run drawnC noExt_ok rfl (das := [spD m v st d w len f]) (r66 m v st d w len f)
  · cases hv
/-! CheckSpindle -/
def X2 : Ext := conX [(64, cf val64), (66, cf val66)] false
theorem X2_ok : ExtOK Try.prog X2 := conX_ok (allCon_cons (con_ok con64) (allCon_cons (con_ok con66) allCon_nil))
end
end Go.Proofs.Ytmmokemjibdinaa
/- Stage 1: contracts: CheckSpindle, and the reference's Fault. -/
namespace Go.Proofs.Ytmmokemjibdinaa
open Go Go.Ev
set_option maxRecDepth 1000000
noncomputable section
theorem r22 (m v st d w : Int) (len : Nat) (f : Nat → Nat → Int) : vc (runD0 Try.prog X2 300 22 (enc [spD m v st d w len f] 0) 1 (fun x => valP x (.int .i64 (ckS m v st d w len f)))) (.sp .nil (.go 5 (.sp .nil (.go 260 (.sp .nil .nil))))) := of_eq (q := (((not (iLe ((len : Nat) : Int) (6))) = true → (((3) : Int) = (ckS m v st d w len f))) ∧
  ((not (iLe ((len : Nat) : Int) (6))) = false → ((cond (cond (allI IntKind.i64 (cellsI IntKind.i64 f) len 1) true false) (Nat.ble len 1000000) false) = true ∧ (((not (allW len f)) = true → (((1) : Int) = (ckS m v st d w len f))) ∧
  ((not (allW len f)) = false → ((cond (cond (cond (allI IntKind.i64 (cellsI IntKind.i64 f) len 1) true false) true false) true false) = true ∧ (((not (stemB m v st d w)) = true → (((1) : Int) = (ckS m v st d w len f))) ∧
  ((not (stemB m v st d w)) = false → (((0) : Int) = (ckS m v st d w len f))))))))))) (by kernel_rfl) (by (try simp only [iLe_t, iLe_f, iEq_t, iEq_f, small_t, small_f, cmin, cmax, not_t, not_f, boolEq_t, boolEq_f, ble_t, ble_f, blt_t, blt_f, beq_t, beq_f, iIn_t, iIn_f, allI_cells, cond_true, cond_false, true_and, and_true, eq_self]); (repeat' (first | exact True.intro | refine And.intro ?_ ?_ | intro _)); all_goals (first | omega | exact ckS_big (by omega) | (rw [ckS_small (by omega)]; simp_all)))
def val22 : Val := fun das => match das with | [.st [.i .i64 m, .i .i64 v, .i .i64 st, .i .i64 d, .i .i64 w, .sl 1 len f]] => some (true, .int .i64 (ckS m v st d w len f)) | _ => none
theorem con22 : Con Try.prog 22 val22 := by
  intro das v hv
  unfold val22 at hv
  split at hv
  · rename_i m v st d w len f
    have hv := congrArg Prod.snd (Option.some.inj hv)
    subst hv
    exact con_run drawnC X2_ok rfl (das := [spD m v st d w len f]) (r22 m v st d w len f)
  · cases hv
end
end Go.Proofs.Ytmmokemjibdinaa
/- Stage 1: contracts: the reference's Fault. -/
namespace Go.Proofs.Ytmmokemjibdinaa
open Go Go.Ev
set_option maxRecDepth 1000000
noncomputable section
def row59 (m v st d w : Int) (len : Nat) (f : Nat → Nat → Int) : List V := encL [.i .i64 m, .i .i64 v, .i .i64 st, .i .i64 d, .i .i64 w, .sl 1 len f] 0
def base59 (m v st d w : Int) (len : Nat) (f : Nat → Nat → Int) : EH := mkH 2 [row59 m v st d w len f]
def lt59 : LT := ⟨[1,3],[],[2],3⟩
def s59 (k : Nat) : LS := ⟨[.ptr 2 0, .int .i64 k], []⟩
def b59 : Code := sub [1,1,1,0,1,0,0] (bodyOf Try.prog 59)
theorem q59a (m v st d w : Int) (len : Nat) (f : Nat → Nat → Int) (h : 6 < len) : vc (runD0 Try.prog noExt 300 59 (enc [spD m v st d w len f] 0) 1 (fun x => valP x (.int .i64 (ckS m v st d w len f)))) (.go 5 .nil) := of_eq (q := ((not (iLe ((len : Nat) : Int) (6))) = true ∧ (((3) : Int) = (ckS m v st d w len f)))) (by kernel_rfl) (by (try simp only [iLe_t, iLe_f, iEq_t, iEq_f, small_t, small_f, cmin, cmax, not_t, not_f, boolEq_t, boolEq_f, ble_t, ble_f, blt_t, blt_f, beq_t, beq_f, iIn_t, iIn_f, allI_cells, cond_true, cond_false, true_and, and_true, eq_self]); (repeat' (first | exact True.intro | refine And.intro ?_ ?_ | intro _)); all_goals (first | omega | exact ckS_big (by omega)))
theorem q59b (m v st d w : Int) (len : Nat) (f : Nat → Nat → Int) (h : len ≤ 6) (hs : ¬ (1 ≤ m ∧ m ≤ 5000 ∧ 1 ≤ v ∧ v ≤ 5000 ∧ 1 ≤ st ∧ st ≤ 100 ∧ 1 ≤ d ∧ d ≤ 20 ∧ 1 ≤ w ∧ w ≤ st ∧ st ≤ 2 * w)) : vc (runD0 Try.prog noExt 300 59 (enc [spD m v st d w len f] 0) 1 (fun x => valP x (.int .i64 1))) (.go 6 (.sp (.go 64 (.sp .nil (.go 16 (.sp (.go 1024 (.sp .nil (.go 16 (.sp (.go 1024 (.sp .nil (.go 16 (.sp (.go 1024 (.sp .nil (.go 256 (.sp (.go 1024 (.sp .nil (.go 81936 .nil))) .nil)))) .nil)))) .nil)))) .nil)))) .nil)) := of_eq (q := ((not (iLe ((len : Nat) : Int) (6))) = false ∧ (((iLe (1) m) = true → (((not (iLe m (5000))) = true → (((1) : Int) = (1))) ∧
  ((not (iLe m (5000))) = false → (((iLe (1) v) = true → (((not (iLe v (5000))) = true → (((1) : Int) = (1))) ∧
  ((not (iLe v (5000))) = false → (((iLe (1) st) = true → (((not (iLe st (100))) = true → (((1) : Int) = (1))) ∧
  ((not (iLe st (100))) = false → (((iLe (1) d) = true → (((not (iLe d (20))) = true → (((1) : Int) = (1))) ∧
  ((not (iLe d (20))) = false → (((iLe (1) w) = true → (((not (iLe w st)) = true → (((1) : Int) = (1))) ∧
  ((not (iLe w st)) = false → ((small ((2) * w)) = true ∧ ((not (iLe st ((2) * w))) = true ∧ (((1) : Int) = (1))))))) ∧
  ((iLe (1) w) = false → (((1) : Int) = (1))))))) ∧
  ((iLe (1) d) = false → (((1) : Int) = (1))))))) ∧
  ((iLe (1) st) = false → (((1) : Int) = (1))))))) ∧
  ((iLe (1) v) = false → (((1) : Int) = (1))))))) ∧
  ((iLe (1) m) = false → (((1) : Int) = (1)))))) (by kernel_rfl) (by (try simp only [iLe_t, iLe_f, iEq_t, iEq_f, small_t, small_f, cmin, cmax, not_t, not_f, boolEq_t, boolEq_f, ble_t, ble_f, blt_t, blt_f, beq_t, beq_f, iIn_t, iIn_f, allI_cells, cond_true, cond_false, true_and, and_true, eq_self]); (repeat' (first | exact True.intro | (with_reducible assumption) | refine And.intro ?_ ?_ | refine cond_mk ?_ ?_ | intro _)); all_goals (first | omega | (with_reducible assumption) | rfl | (simp only [iLe_t, iLe_f, iEq_t, iEq_f, small_t, small_f, cmin, cmax, not_t, not_f, boolEq_t, boolEq_f, ble_t, ble_f, blt_t, blt_f, beq_t, beq_f, iIn_t, iIn_f, allI_cells, cond_true, cond_false, true_and, and_true, eq_self]; first | done | omega | (with_reducible assumption) | rfl)))
theorem e59 (m v st d w : Int) (len : Nat) (f : Nat → Nat → Int) (h : len ≤ 6) (hs : 1 ≤ m ∧ m ≤ 5000 ∧ 1 ≤ v ∧ v ≤ 5000 ∧ 1 ≤ st ∧ st ≤ 100 ∧ 1 ≤ d ∧ d ≤ 20 ∧ 1 ≤ w ∧ w ≤ st ∧ st ≤ 2 * w) : vc (entD Try.prog noExt 300 59 [1,1,1,0,1,0] [spD m v st d w len f] (base59 m v st d w len f) lt59 60 100 (s59 0)) (.go 30428720927065921893535668307974 .nil) := of_eq (q := ((not (iLe ((len : Nat) : Int) (6))) = false ∧ ((iLe (1) m) = true ∧ ((not (iLe m (5000))) = false ∧ ((iLe (1) v) = true ∧ ((not (iLe v (5000))) = false ∧ ((iLe (1) st) = true ∧ ((not (iLe st (100))) = false ∧ ((iLe (1) d) = true ∧ ((not (iLe d (20))) = false ∧ ((iLe (1) w) = true ∧ ((not (iLe w st)) = false ∧ ((small ((2) * w)) = true ∧ ((not (iLe st ((2) * w))) = false ∧ ((True ∧ (True ∧ ((((m : Int) = m) ∧ ((((v : Int) = v) ∧ ((((d : Int) = d) ∧ (True ∧ True)) ∧ (((V.fz true
  (nxA (D0.i IntKind.i64 w)
    (nxA (D0.i IntKind.i64 d) (nxA (D0.i IntKind.i64 st) (nxA (D0.i IntKind.i64 v) (nxA (D0.i IntKind.i64 m) 0)))))
  (cellsI IntKind.i64 f) len 1 : V) = V.fz true
  (nxA (D0.i IntKind.i64 w)
    (nxA (D0.i IntKind.i64 d) (nxA (D0.i IntKind.i64 st) (nxA (D0.i IntKind.i64 v) (nxA (D0.i IntKind.i64 m) 0)))))
  (cellsI IntKind.i64 f) len 1) ∧ (True ∧ True)))) ∧ (((st : Int) = st) ∧ ((((w : Int) = w) ∧ (True ∧ True)) ∧ True)))) ∧ (True ∧ True)))) ∧ ((((V.ptr (Nat.succ 1) 0 : V) = V.ptr 2 0) ∧ ((((0) : Int) = ((0 : Nat) : Int)) ∧ True)) ∧ True)))))))))))))))) (by kernel_rfl) (by (try simp only [iLe_t, iLe_f, iEq_t, iEq_f, small_t, small_f, cmin, cmax, not_t, not_f, boolEq_t, boolEq_f, ble_t, ble_f, blt_t, blt_f, beq_t, beq_f, iIn_t, iIn_f, allI_cells, cond_true, cond_false, true_and, and_true, eq_self]); (repeat' (first | exact True.intro | (with_reducible assumption) | refine And.intro ?_ ?_ | refine cond_mk ?_ ?_ | intro _)); all_goals (first | omega | (with_reducible assumption) | rfl | (simp only [iLe_t, iLe_f, iEq_t, iEq_f, small_t, small_f, cmin, cmax, not_t, not_f, boolEq_t, boolEq_f, ble_t, ble_f, blt_t, blt_f, beq_t, beq_f, iIn_t, iIn_f, allI_cells, cond_true, cond_false, true_and, and_true, eq_self]; first | done | omega | (with_reducible assumption) | rfl)))
theorem r59a (m v st d w : Int) (len k : Nat) (f : Nat → Nat → Int) (h1 : k < len) (h2 : len ≤ 6) (h3 : 1 ≤ f k 0) (h4 : f k 0 ≤ 1000) : vc (roundD Try.prog noExt 300 b59 (base59 m v st d w len f) lt59 60 100 (s59 k) (.next (s59 (k + 1)))) (.go 90133 .nil) := of_eq (q := ((not (iLe ((len : Nat) : Int) ((k : Nat) : Int))) = true ∧ ((Nat.blt k len) = true ∧ ((iLe (1) (f k 0)) = true ∧ ((not (iLe (f k 0) (1000))) = false ∧ ((small (((k : Nat) : Int) + (1))) = true ∧ ((((V.ptr 2 0 : V) = V.ptr 2 0) ∧ ((((((k : Nat) : Int) + (1)) : Int) = (((k + 1) : Nat) : Int)) ∧ True)) ∧ True))))))) (by kernel_rfl) (by (try simp only [iLe_t, iLe_f, iEq_t, iEq_f, small_t, small_f, cmin, cmax, not_t, not_f, boolEq_t, boolEq_f, ble_t, ble_f, blt_t, blt_f, beq_t, beq_f, iIn_t, iIn_f, allI_cells, cond_true, cond_false, true_and, and_true, eq_self]); (repeat' (first | exact True.intro | (with_reducible assumption) | refine And.intro ?_ ?_ | refine cond_mk ?_ ?_ | intro _)); all_goals (first | omega | (with_reducible assumption) | rfl | (simp only [iLe_t, iLe_f, iEq_t, iEq_f, small_t, small_f, cmin, cmax, not_t, not_f, boolEq_t, boolEq_f, ble_t, ble_f, blt_t, blt_f, beq_t, beq_f, iIn_t, iIn_f, allI_cells, cond_true, cond_false, true_and, and_true, eq_self]; first | done | omega | (with_reducible assumption) | rfl)))
theorem r59b (m v st d w : Int) (len k : Nat) (f : Nat → Nat → Int) (h1 : k < len) (h2 : len ≤ 6) (h3 : ¬ (1 ≤ f k 0 ∧ f k 0 ≤ 1000)) : vc (roundD Try.prog noExt 300 b59 (base59 m v st d w len f) lt59 60 100 (s59 k) (.ret ⟨[.int .i64 1], []⟩)) (.go 21 (.sp (.go 320 .nil) .nil)) := of_eq (q := ((not (iLe ((len : Nat) : Int) ((k : Nat) : Int))) = true ∧ ((Nat.blt k len) = true ∧ (((iLe (1) (f k 0)) = true → ((not (iLe (f k 0) (1000))) = true ∧ (((((1) : Int) = (1)) ∧ True) ∧ True))) ∧
  ((iLe (1) (f k 0)) = false → (((((1) : Int) = (1)) ∧ True) ∧ True)))))) (by kernel_rfl) (by (try simp only [iLe_t, iLe_f, iEq_t, iEq_f, small_t, small_f, cmin, cmax, not_t, not_f, boolEq_t, boolEq_f, ble_t, ble_f, blt_t, blt_f, beq_t, beq_f, iIn_t, iIn_f, allI_cells, cond_true, cond_false, true_and, and_true, eq_self]); (repeat' (first | exact True.intro | (with_reducible assumption) | refine And.intro ?_ ?_ | refine cond_mk ?_ ?_ | intro _)); all_goals (first | omega | (with_reducible assumption) | rfl | (simp only [iLe_t, iLe_f, iEq_t, iEq_f, small_t, small_f, cmin, cmax, not_t, not_f, boolEq_t, boolEq_f, ble_t, ble_f, blt_t, blt_f, beq_t, beq_f, iIn_t, iIn_f, allI_cells, cond_true, cond_false, true_and, and_true, eq_self]; first | done | omega | (with_reducible assumption) | rfl)))
theorem r59c (m v st d w : Int) (len k : Nat) (f : Nat → Nat → Int) (h1 : ¬ k < len) : vc (roundD Try.prog noExt 300 b59 (base59 m v st d w len f) lt59 60 100 (s59 k) (.exit 0 ⟨[], []⟩)) (.go 6 .nil) := of_eq (q := ((not (iLe ((len : Nat) : Int) ((k : Nat) : Int))) = false ∧ (True ∧ True))) (by kernel_rfl) (by (try simp only [iLe_t, iLe_f, iEq_t, iEq_f, small_t, small_f, cmin, cmax, not_t, not_f, boolEq_t, boolEq_f, ble_t, ble_f, blt_t, blt_f, beq_t, beq_f, iIn_t, iIn_f, allI_cells, cond_true, cond_false, true_and, and_true, eq_self]); (repeat' (first | exact True.intro | (with_reducible assumption) | refine And.intro ?_ ?_ | refine cond_mk ?_ ?_ | intro _)); all_goals (first | omega | (with_reducible assumption) | rfl | (simp only [iLe_t, iLe_f, iEq_t, iEq_f, small_t, small_f, cmin, cmax, not_t, not_f, boolEq_t, boolEq_f, ble_t, ble_f, blt_t, blt_f, beq_t, beq_f, iIn_t, iIn_f, allI_cells, cond_true, cond_false, true_and, and_true, eq_self]; first | done | omega | (with_reducible assumption) | rfl)))
theorem f59a (m v st d w : Int) (len : Nat) (f : Nat → Nat → Int) : vc (fromD Try.prog noExt 300 59 [1,1,1,0,1,0] (Lv.res lt59 60 (endH (base59 m v st d w len f) lt59 100 (.exit 0 ⟨[], []⟩)) (.exit 0 ⟨[], []⟩)) (.int .i64 0)) .nil := of_eq (q := (((0) : Int) = (0))) (by kernel_rfl) (by (try simp only [iLe_t, iLe_f, iEq_t, iEq_f, small_t, small_f, cmin, cmax, not_t, not_f, boolEq_t, boolEq_f, ble_t, ble_f, blt_t, blt_f, beq_t, beq_f, iIn_t, iIn_f, allI_cells, cond_true, cond_false, true_and, and_true, eq_self]); (repeat' (first | exact True.intro | (with_reducible assumption) | refine And.intro ?_ ?_ | refine cond_mk ?_ ?_ | intro _)); all_goals (first | omega | (with_reducible assumption) | rfl | (simp only [iLe_t, iLe_f, iEq_t, iEq_f, small_t, small_f, cmin, cmax, not_t, not_f, boolEq_t, boolEq_f, ble_t, ble_f, blt_t, blt_f, beq_t, beq_f, iIn_t, iIn_f, allI_cells, cond_true, cond_false, true_and, and_true, eq_self]; first | done | omega | (with_reducible assumption) | rfl)))
theorem f59b (m v st d w : Int) (len : Nat) (f : Nat → Nat → Int) : vc (fromD Try.prog noExt 300 59 [1,1,1,0,1,0] (Lv.res lt59 60 (endH (base59 m v st d w len f) lt59 100 (.ret ⟨[.int .i64 1], []⟩)) (.ret ⟨[.int .i64 1], []⟩)) (.int .i64 1)) .nil := of_eq (q := (((1) : Int) = (1))) (by kernel_rfl) (by (try simp only [iLe_t, iLe_f, iEq_t, iEq_f, small_t, small_f, cmin, cmax, not_t, not_f, boolEq_t, boolEq_f, ble_t, ble_f, blt_t, blt_f, beq_t, beq_f, iIn_t, iIn_f, allI_cells, cond_true, cond_false, true_and, and_true, eq_self]); (repeat' (first | exact True.intro | (with_reducible assumption) | refine And.intro ?_ ?_ | refine cond_mk ?_ ?_ | intro _)); all_goals (first | omega | (with_reducible assumption) | rfl | (simp only [iLe_t, iLe_f, iEq_t, iEq_f, small_t, small_f, cmin, cmax, not_t, not_f, boolEq_t, boolEq_f, ble_t, ble_f, blt_t, blt_f, beq_t, beq_f, iIn_t, iIn_f, allI_cells, cond_true, cond_false, true_and, and_true, eq_self]; first | done | omega | (with_reducible assumption) | rfl)))
theorem con59 : Con Try.prog 59 val22 := by
  intro das v hv
  unfold val22 at hv
  split at hv
  · rename_i m v st d w len f
    have hv := congrArg Prod.snd (Option.some.inj hv)
    subst hv
    refine ⟨rfl, ?_⟩
    by_cases hl : len ≤ 6
    · by_cases hs : 1 ≤ m ∧ m ≤ 5000 ∧ 1 ≤ v ∧ v ≤ 5000 ∧ 1 ≤ st ∧ st ≤ 100 ∧ 1 ≤ d ∧ d ≤ 20 ∧ 1 ≤ w ∧ w ≤ st ∧ st ≤ 2 * w
      · rcases first_bad (wOk f) len with h | ⟨N, h1, h2, h3⟩
        · have e : ckS m v st d w len f = 0 := by rw [ckS_small hl, show allW len f = true from allN_true h, show stemB m v st d w = true from (stemB_t hs).symm]; rfl
          show ∃ v' H', SpecCall _ _ _ _ v' H' ∧ valP v' (.int .i64 (ckS m v st d w len f))
          rw [e]
          refine con_loopD drawnC noExt_ok (lv := .exit 0 ⟨[], []⟩) (by kernel_rfl) (by kernel_rfl) (e59 m v st d w len f hl hs) (loop_rule (body := b59) (fun _ e => by cases e) len s59 (fun k hk => ?_) ?_) (f59a m v st d w len f)
          · have := h k hk
            simp only [wOk, decide_eq_true_eq] at this
            exact round_of drawnC noExt_ok (r59a m v st d w len k f hk hl this.1 this.2) (by kernel_rfl) (by kernel_rfl)
          · exact round_of drawnC noExt_ok (r59c m v st d w len len f (by omega)) (by kernel_rfl) (by kernel_rfl)
        · have e : ckS m v st d w len f = 1 := by rw [ckS_small hl, show allW len f = false from allN_false h1 h3]; rfl
          show ∃ v' H', SpecCall _ _ _ _ v' H' ∧ valP v' (.int .i64 (ckS m v st d w len f))
          rw [e]
          refine con_loopD drawnC noExt_ok (lv := .ret ⟨[.int .i64 1], []⟩) (by kernel_rfl) (by kernel_rfl) (e59 m v st d w len f hl hs) (loop_rule (body := b59) (fun _ e => by cases e) N s59 (fun k hk => ?_) ?_) (f59b m v st d w len f)
          · have := h2 k hk
            simp only [wOk, decide_eq_true_eq] at this
            exact round_of drawnC noExt_ok (r59a m v st d w len k f (by omega) hl this.1 this.2) (by kernel_rfl) (by kernel_rfl)
          · simp only [wOk, decide_eq_false_iff_not] at h3
            exact round_of drawnC noExt_ok (r59b m v st d w len N f h1 hl h3) (by kernel_rfl) (by kernel_rfl)
      · have e : ckS m v st d w len f = 1 := by rw [ckS_small hl, show stemB m v st d w = false from (stemB_f hs).symm]; cases allW len f <;> rfl
        show ∃ v' H', SpecCall _ _ _ _ v' H' ∧ valP v' (.int .i64 (ckS m v st d w len f))
        rw [e]
        obtain ⟨v', H', q1, q2⟩ := runD0_ok drawnC noExt_ok (q59b m v st d w len f hl hs)
        exact ⟨v', H', q1, q2⟩
    · obtain ⟨v', H', q1, q2⟩ := runD0_ok drawnC noExt_ok (q59a m v st d w len f (by omega))
      exact ⟨v', H', q1, q2⟩
  · cases hv
end
end Go.Proofs.Ytmmokemjibdinaa
/- Stage 1: contracts: the densities of a depth, and whether a spindle floats. -/
namespace Go.Proofs.Ytmmokemjibdinaa
open Go Go.Ev
set_option maxRecDepth 1000000
noncomputable section
def mI (m : Int) (f : Nat → Nat → Int) (load : Int) : Int := cond (iEq load 0) m (m + f (Int.toNat (load - 1)) 0)
def mOk (m : Int) (len : Nat) (f : Nat → Nat → Int) (load : Int) : Prop := 1 ≤ m ∧ m ≤ 5000 ∧ len ≤ 6 ∧ 0 ≤ load ∧ load ≤ len ∧ (load = 0 ∨ (1 ≤ f (Int.toNat (load - 1)) 0 ∧ f (Int.toNat (load - 1)) 0 ≤ 1000))
instance (m : Int) (len : Nat) (f : Nat → Nat → Int) (load : Int) : Decidable (mOk m len f load) := by unfold mOk; infer_instance
def mOkB (m : Int) (len : Nat) (f : Nat → Nat → Int) (load : Int) : Bool := decide (mOk m len f load)
theorem mI_bd {m : Int} {len : Nat} {f : Nat → Nat → Int} {load : Int} (h : mOkB m len f load = true) : 1 ≤ mI m f load ∧ mI m f load ≤ 6000 := by
  have h : mOk m len f load := of_decide_eq_true h
  unfold mOk at h
  unfold mI
  rw [iEq_eq]
  by_cases e : load = 0
  · rw [show decide (load = 0) = true from decide_eq_true e]; show 1 ≤ m ∧ m ≤ 6000; omega
  · rw [show decide (load = 0) = false from decide_eq_false e]; show 1 ≤ m + f (Int.toNat (load - 1)) 0 ∧ m + f (Int.toNat (load - 1)) 0 ≤ 6000; omega
def sOk (m v st d w : Int) (len : Nat) (f : Nat → Nat → Int) (load : Int) : Bool := cond (stemB m v st d w) (mOkB m len f load) false
theorem sOk_get {m v st d w : Int} {len : Nat} {f : Nat → Nat → Int} {load : Int} (h : sOk m v st d w len f load = true) : (1 ≤ m ∧ m ≤ 5000 ∧ 1 ≤ v ∧ v ≤ 5000 ∧ 1 ≤ st ∧ st ≤ 100 ∧ 1 ≤ d ∧ d ≤ 20 ∧ 1 ≤ w ∧ w ≤ st ∧ st ≤ 2 * w) ∧ (1 ≤ d * st ∧ d * st ≤ 2000) ∧ mOkB m len f load = true ∧ (1 ≤ mI m f load ∧ mI m f load ≤ 6000) := by
  unfold sOk at h
  cases h1 : stemB m v st d w with
  | false => rw [h1] at h; cases h
  | true =>
    rw [h1] at h
    have hs := of_decide_eq_true h1
    have hk : mOkB m len f load = true := h
    refine ⟨hs, ⟨?_, ?_⟩, hk, mI_bd hk⟩
    · have := Int.mul_le_mul (a := 1) (b := 1) (c := d) (d := st) (by omega) (by omega) (by omega) (by omega); omega
    · have := Int.mul_le_mul (a := d) (b := st) (c := 20) (d := 100) (by omega) (by omega) (by omega) (by omega); omega
def loB (μ dp : Int) : Int := Int.tdiv (1000 * μ + dp - 1) dp
def hiB (μ sh : Int) : Int := Int.tdiv (1000 * μ) sh
/-! mass -/
theorem r102a (m v st d w : Int) (len : Nat) (f : Nat → Nat → Int) (load : Int) (h0 : load = 0) (h1 : 1 ≤ m) (h2 : m ≤ 5000) : vc (runD0 Try.prog noExt 300 102 (enc [spD m v st d w len f, .one (.i .i64 load)] 0) 1 (fun x => valP x (.int .i64 m))) (.go 5 .nil) := of_eq (q := ((iEq load (0)) = true ∧ ((m : Int) = m))) (by kernel_rfl) (by (try simp only [iLe_t, iLe_f, iEq_t, iEq_f, small_t, small_f, cmin, cmax, not_t, not_f, boolEq_t, boolEq_f, ble_t, ble_f, blt_t, blt_f, beq_t, beq_f, iIn_t, iIn_f, allI_cells, cond_true, cond_false, true_and, and_true, eq_self]); (repeat' (first | exact True.intro | (with_reducible assumption) | refine And.intro ?_ ?_ | refine cond_mk ?_ ?_ | intro _)); all_goals (first | omega | (with_reducible assumption) | rfl | (simp only [iLe_t, iLe_f, iEq_t, iEq_f, small_t, small_f, cmin, cmax, not_t, not_f, boolEq_t, boolEq_f, ble_t, ble_f, blt_t, blt_f, beq_t, beq_f, iIn_t, iIn_f, allI_cells, cond_true, cond_false, true_and, and_true, eq_self]; first | done | omega | (with_reducible assumption) | rfl)))
theorem r102b (m v st d w : Int) (len : Nat) (f : Nat → Nat → Int) (load : Int) (h0 : 1 ≤ load) (hl : load ≤ len) (h6 : len ≤ 6) (h1 : 1 ≤ m) (h2 : m ≤ 5000) (h3 : 1 ≤ f (Int.toNat (load - 1)) 0) (h4 : f (Int.toNat (load - 1)) 0 ≤ 1000) : vc (runD0 Try.prog noExt 300 102 (enc [spD m v st d w len f, .one (.i .i64 load)] 0) 1 (fun x => valP x (.int .i64 (m + f (Int.toNat (load - 1)) 0)))) (.go 342 .nil) := of_eq (q := ((iEq load (0)) = false ∧ ((small (load - (1))) = true ∧ ((iIn (load - (1)) len) = true ∧ ((small (m + (f ((load - 1).toNat) 0))) = true ∧ (((m + (f ((load - 1).toNat) 0)) : Int) = (m + (f ((load - 1).toNat) 0)))))))) (by kernel_rfl) (by (try simp only [iLe_t, iLe_f, iEq_t, iEq_f, small_t, small_f, cmin, cmax, not_t, not_f, boolEq_t, boolEq_f, ble_t, ble_f, blt_t, blt_f, beq_t, beq_f, iIn_t, iIn_f, allI_cells, cond_true, cond_false, true_and, and_true, eq_self]); (repeat' (first | exact True.intro | (with_reducible assumption) | refine And.intro ?_ ?_ | refine cond_mk ?_ ?_ | intro _)); all_goals (first | omega | (with_reducible assumption) | rfl | (simp only [iLe_t, iLe_f, iEq_t, iEq_f, small_t, small_f, cmin, cmax, not_t, not_f, boolEq_t, boolEq_f, ble_t, ble_f, blt_t, blt_f, beq_t, beq_f, iIn_t, iIn_f, allI_cells, cond_true, cond_false, true_and, and_true, eq_self]; first | done | omega | (with_reducible assumption) | rfl)))
def val102 : Val := fun das => match das with | [.st [.i .i64 m, .i .i64 _, .i .i64 _, .i .i64 _, .i .i64 _, .sl 1 len f], .one (.i .i64 load)] => some (mOkB m len f load, .int .i64 (mI m f load)) | _ => none
theorem con102 : Con Try.prog 102 val102 := by
  intro das x hv
  unfold val102 at hv
  split at hv
  · rename_i m v st d w len f load
    have hb := congrArg Prod.fst (Option.some.inj hv)
    have hv := congrArg Prod.snd (Option.some.inj hv)
    subst hv
    have hk : mOk m len f load := of_decide_eq_true hb
    unfold mOk at hk
    by_cases e : load = 0
    · have : mI m f load = m := by unfold mI; rw [iEq_eq, show decide (load = 0) = true from decide_eq_true e]; rfl
      rw [this]
      exact con_run drawnC noExt_ok rfl (das := [spD m v st d w len f, .one (.i .i64 load)]) (r102a m v st d w len f load e (by omega) (by omega))
    · have : mI m f load = m + f (Int.toNat (load - 1)) 0 := by unfold mI; rw [iEq_eq, show decide (load = 0) = false from decide_eq_false e]; rfl
      rw [this]
      exact con_run drawnC noExt_ok rfl (das := [spD m v st d w len f, .one (.i .i64 load)]) (r102b m v st d w len f load (by omega) (by omega) (by omega) (by omega) (by omega) (by omega) (by omega))
  · cases hv
def X5 : Ext := conX [(102, cf val102)] false
theorem X5_ok : ExtOK Try.prog X5 := conX_ok (allCon_cons (con_ok con102) allCon_nil)
end
end Go.Proofs.Ytmmokemjibdinaa
/- Stage 1: contracts: the densities of a depth, and whether a spindle floats. -/
namespace Go.Proofs.Ytmmokemjibdinaa
open Go Go.Ev
set_option maxRecDepth 1000000
noncomputable section
theorem tdiv_bd {a b : Int} (h0 : 0 ≤ a) (h1 : 1 ≤ b) : 0 ≤ Int.tdiv a b ∧ Int.tdiv a b ≤ a := by
  rw [Int.tdiv_eq_ediv_of_nonneg h0]
  exact ⟨Int.ediv_nonneg h0 (by omega), Int.ediv_le_self _ h0⟩
theorem loB_bd {μ dp : Int} (h : 1 ≤ μ ∧ μ ≤ 6000) (h1 : 1 ≤ dp) (h2 : dp ≤ 10000) : 0 ≤ Int.tdiv (1000 * μ + dp - 1) dp ∧ Int.tdiv (1000 * μ + dp - 1) dp ≤ 6010000 := by have := tdiv_bd (a := 1000 * μ + dp - 1) (b := dp) (by omega) h1; omega
theorem hiB_bd {μ dp : Int} (h : 1 ≤ μ ∧ μ ≤ 6000) (h1 : 1 ≤ dp) : 0 ≤ Int.tdiv (1000 * μ) dp ∧ Int.tdiv (1000 * μ) dp ≤ 6000000 := by have := tdiv_bd (a := 1000 * μ) (b := dp) (by omega) h1; omega
/-! between -/
theorem r88 (m v st d w : Int) (len : Nat) (f : Nat → Nat → Int) (load sh dp : Int) (hk : mOkB m len f load = true) (hm : 1 ≤ mI m f load ∧ mI m f load ≤ 6000) (h1 : 1 ≤ sh) (h2 : 1 ≤ dp) (h3 : dp ≤ 10000) (hd : 0 ≤ Int.tdiv (1000 * mI m f load + dp - 1) dp ∧ Int.tdiv (1000 * mI m f load + dp - 1) dp ≤ 6010000) (he : 0 ≤ Int.tdiv (1000 * mI m f load) sh ∧ Int.tdiv (1000 * mI m f load) sh ≤ 6000000) : vc (runD0 Try.prog X5 300 88 (enc [spD m v st d w len f, .one (.i .i64 load), .one (.i .i64 sh), .one (.i .i64 dp)] 0) 1 (fun x => valP x (.agg 2 (T.setL .lf 0 [.int .i64 (loB (mI m f load) dp), .int .i64 (hiB (mI m f load) sh)])))) (.go 91733 .nil) := of_eq (q := ((cond (cond (cond (allI IntKind.i64 (cellsI IntKind.i64 f) len 1) true false) true false) (mOkB m len f load) false) = true ∧ ((small ((1000) * (mI m f load))) = true ∧ ((small (((1000) * (mI m f load)) + dp)) = true ∧ ((small ((((1000) * (mI m f load)) + dp) - (1))) = true ∧ ((iEq dp (0)) = false ∧ ((small (Int.tdiv ((((1000) * (mI m f load)) + dp) - (1)) dp)) = true ∧ ((iEq sh (0)) = false ∧ ((small (Int.tdiv ((1000) * (mI m f load)) sh)) = true ∧ ((((Int.tdiv ((((1000) * (mI m f load)) + dp) - (1)) dp) : Int) = (Int.tdiv ((((1000) * (mI m f load)) + dp) - (1)) dp)) ∧ ((((Int.tdiv ((1000) * (mI m f load)) sh) : Int) = (Int.tdiv ((1000) * (mI m f load)) sh)) ∧ True))))))))))) (by kernel_rfl) (by (try simp only [iLe_t, iLe_f, iEq_t, iEq_f, small_t, small_f, cmin, cmax, not_t, not_f, boolEq_t, boolEq_f, ble_t, ble_f, blt_t, blt_f, beq_t, beq_f, iIn_t, iIn_f, allI_cells, cond_true, cond_false, true_and, and_true, eq_self]); (repeat' (first | exact True.intro | (with_reducible assumption) | refine And.intro ?_ ?_ | refine cond_mk ?_ ?_ | intro _)); all_goals (first | omega | (with_reducible assumption) | rfl | (simp only [iLe_t, iLe_f, iEq_t, iEq_f, small_t, small_f, cmin, cmax, not_t, not_f, boolEq_t, boolEq_f, ble_t, ble_f, blt_t, blt_f, beq_t, beq_f, iIn_t, iIn_f, allI_cells, cond_true, cond_false, true_and, and_true, eq_self]; first | done | omega | (with_reducible assumption) | rfl)))
def val88 : Val := fun das => match das with | [.st [.i .i64 m, .i .i64 v, .i .i64 st, .i .i64 d, .i .i64 w, .sl 1 len f], .one (.i .i64 load), .one (.i .i64 sh), .one (.i .i64 dp)] => some (cond (mOkB m len f load) (cond (iLe 1 sh) (cond (iLe 1 dp) (iLe dp 10000) false) false) false, .agg 2 (T.setL .lf 0 [.int .i64 (loB (mI m f load) dp), .int .i64 (hiB (mI m f load) sh)])) | _ => none
theorem con88 : Con Try.prog 88 val88 := by
  intro das x hv
  unfold val88 at hv
  split at hv
  · rename_i m v st d w len f load sh dp
    have hb := congrArg Prod.fst (Option.some.inj hv)
    have hv := congrArg Prod.snd (Option.some.inj hv)
    subst hv
    obtain ⟨hk, h2⟩ := cond_tt hb
    obtain ⟨h2, h3⟩ := cond_tt h2
    obtain ⟨h3, h4⟩ := cond_tt h3
    rw [iLe_t] at h2 h3 h4
    have h2 : 1 ≤ sh ∧ 1 ≤ dp ∧ dp ≤ 10000 := ⟨h2, h3, h4⟩
    exact con_run drawnC X5_ok rfl (das := [spD m v st d w len f, .one (.i .i64 load), .one (.i .i64 sh), .one (.i .i64 dp)]) (r88 m v st d w len f load sh dp hk (mI_bd hk) h2.1 h2.2.1 h2.2.2 (loB_bd (mI_bd hk) h2.2.1 h2.2.2) (hiB_bd (mI_bd hk) h2.1))
  · cases hv
/-! common -/
theorem r73 (a b c d : Int) : vc (runD0 Try.prog noExt 300 73 (enc [.st [.i .i64 a, .i .i64 b], .st [.i .i64 c, .i .i64 d]] 0) 0 (fun x => valP x (.agg 2 (T.setL .lf 0 [.int .i64 (max a c), .int .i64 (min b d)])))) (.go 16 (.sp (.go 256 (.sp .nil .nil)) (.go 256 (.sp .nil .nil)))) := of_eq (q := (((not (iLe c a)) = true → (((not (iLe b d)) = true → (((c : Int) = (max a c)) ∧ (((d : Int) = (min b d)) ∧ True))) ∧
  ((not (iLe b d)) = false → (((c : Int) = (max a c)) ∧ (((b : Int) = (min b d)) ∧ True))))) ∧
  ((not (iLe c a)) = false → (((not (iLe b d)) = true → (((a : Int) = (max a c)) ∧ (((d : Int) = (min b d)) ∧ True))) ∧
  ((not (iLe b d)) = false → (((a : Int) = (max a c)) ∧ (((b : Int) = (min b d)) ∧ True))))))) (by kernel_rfl) (by (try simp only [iLe_t, iLe_f, iEq_t, iEq_f, small_t, small_f, cmin, cmax, not_t, not_f, boolEq_t, boolEq_f, ble_t, ble_f, blt_t, blt_f, beq_t, beq_f, iIn_t, iIn_f, allI_cells, cond_true, cond_false, true_and, and_true, eq_self]); (repeat' (first | exact True.intro | (with_reducible assumption) | refine And.intro ?_ ?_ | refine cond_mk ?_ ?_ | intro _)); all_goals (first | omega | (with_reducible assumption) | rfl | (simp only [iLe_t, iLe_f, iEq_t, iEq_f, small_t, small_f, cmin, cmax, not_t, not_f, boolEq_t, boolEq_f, ble_t, ble_f, blt_t, blt_f, beq_t, beq_f, iIn_t, iIn_f, allI_cells, cond_true, cond_false, true_and, and_true, eq_self]; first | done | omega | (with_reducible assumption) | rfl)))
def val73 : Val := fun das => match das with | [.st [.i .i64 a, .i .i64 b], .st [.i .i64 c, .i .i64 d]] => some (true, .agg 2 (T.setL .lf 0 [.int .i64 (max a c), .int .i64 (min b d)])) | _ => none
theorem con73 : Con Try.prog 73 val73 := by
  intro das x hv
  unfold val73 at hv
  split at hv
  · rename_i a b c d
    have hv := congrArg Prod.snd (Option.some.inj hv)
    subst hv
    exact con_run drawnC noExt_ok rfl (das := [.st [.i .i64 a, .i .i64 b], .st [.i .i64 c, .i .i64 d]]) (r73 a b c d)
  · cases hv
/-! the ends of a division -/
def shal (v st w k : Int) : Int := max v (v + k * st - w)
def deep (v st d w k : Int) : Int := min (v + d * st) (v + k * st + w)
theorem r100 (m v st d w : Int) (len : Nat) (f : Nat → Nat → Int) (k : Int) (hs : 1 ≤ m ∧ m ≤ 5000 ∧ 1 ≤ v ∧ v ≤ 5000 ∧ 1 ≤ st ∧ st ≤ 100 ∧ 1 ≤ d ∧ d ≤ 20 ∧ 1 ≤ w ∧ w ≤ st ∧ st ≤ 2 * w) (hp : 1 ≤ d * st ∧ d * st ≤ 2000) (h1 : 0 ≤ k * st ∧ k * st ≤ 2000) : vc (runD0 Try.prog noExt 300 100 (enc [spD m v st d w len f, .one (.i .i64 k)] 0) 1 (fun x => valP x (.int .i64 (max v (v + k * st - w))))) (.go 1045 (.sp .nil .nil)) := of_eq (q := ((small (k * st)) = true ∧ ((small (v + (k * st))) = true ∧ ((small ((v + (k * st)) - w)) = true ∧ (((not (iLe ((v + (k * st)) - w) v)) = true → ((((v + (k * st)) - w) : Int) = (max v ((v + (k * st)) - w)))) ∧
  ((not (iLe ((v + (k * st)) - w) v)) = false → ((v : Int) = (max v ((v + (k * st)) - w))))))))) (by kernel_rfl) (by (try simp only [iLe_t, iLe_f, iEq_t, iEq_f, small_t, small_f, cmin, cmax, not_t, not_f, boolEq_t, boolEq_f, ble_t, ble_f, blt_t, blt_f, beq_t, beq_f, iIn_t, iIn_f, allI_cells, cond_true, cond_false, true_and, and_true, eq_self]); (repeat' (first | exact True.intro | (with_reducible assumption) | refine And.intro ?_ ?_ | refine cond_mk ?_ ?_ | intro _)); all_goals (first | omega | (with_reducible assumption) | rfl | (simp only [iLe_t, iLe_f, iEq_t, iEq_f, small_t, small_f, cmin, cmax, not_t, not_f, boolEq_t, boolEq_f, ble_t, ble_f, blt_t, blt_f, beq_t, beq_f, iIn_t, iIn_f, allI_cells, cond_true, cond_false, true_and, and_true, eq_self]; first | done | omega | (with_reducible assumption) | rfl)))
theorem r101 (m v st d w : Int) (len : Nat) (f : Nat → Nat → Int) (k : Int) (hs : 1 ≤ m ∧ m ≤ 5000 ∧ 1 ≤ v ∧ v ≤ 5000 ∧ 1 ≤ st ∧ st ≤ 100 ∧ 1 ≤ d ∧ d ≤ 20 ∧ 1 ≤ w ∧ w ≤ st ∧ st ≤ 2 * w) (hp : 1 ≤ d * st ∧ d * st ≤ 2000) (h1 : 0 ≤ k * st ∧ k * st ≤ 2000) : vc (runD0 Try.prog noExt 300 101 (enc [spD m v st d w len f, .one (.i .i64 k)] 0) 1 (fun x => valP x (.int .i64 (min (v + d * st) (v + k * st + w))))) (.go 16725 (.sp .nil .nil)) := of_eq (q := ((small (d * st)) = true ∧ ((small (v + (d * st))) = true ∧ ((small (k * st)) = true ∧ ((small (v + (k * st))) = true ∧ ((small ((v + (k * st)) + w)) = true ∧ (((not (iLe (v + (d * st)) ((v + (k * st)) + w))) = true → ((((v + (k * st)) + w) : Int) = (min (v + (d * st)) ((v + (k * st)) + w)))) ∧
  ((not (iLe (v + (d * st)) ((v + (k * st)) + w))) = false → (((v + (d * st)) : Int) = (min (v + (d * st)) ((v + (k * st)) + w))))))))))) (by kernel_rfl) (by (try simp only [iLe_t, iLe_f, iEq_t, iEq_f, small_t, small_f, cmin, cmax, not_t, not_f, boolEq_t, boolEq_f, ble_t, ble_f, blt_t, blt_f, beq_t, beq_f, iIn_t, iIn_f, allI_cells, cond_true, cond_false, true_and, and_true, eq_self]); (repeat' (first | exact True.intro | (with_reducible assumption) | refine And.intro ?_ ?_ | refine cond_mk ?_ ?_ | intro _)); all_goals (first | omega | (with_reducible assumption) | rfl | (simp only [iLe_t, iLe_f, iEq_t, iEq_f, small_t, small_f, cmin, cmax, not_t, not_f, boolEq_t, boolEq_f, ble_t, ble_f, blt_t, blt_f, beq_t, beq_f, iIn_t, iIn_f, allI_cells, cond_true, cond_false, true_and, and_true, eq_self]; first | done | omega | (with_reducible assumption) | rfl)))
def kOk (d k : Int) : Bool := cond (iLe 0 k) (iLe k d) false
theorem kOk_get {d k : Int} (h : kOk d k = true) : 0 ≤ k ∧ k ≤ d := by
  obtain ⟨h1, h2⟩ := cond_tt h
  rw [iLe_t] at h1 h2
  exact ⟨h1, h2⟩
theorem kst_bd {m v st d w k : Int} (hs : 1 ≤ m ∧ m ≤ 5000 ∧ 1 ≤ v ∧ v ≤ 5000 ∧ 1 ≤ st ∧ st ≤ 100 ∧ 1 ≤ d ∧ d ≤ 20 ∧ 1 ≤ w ∧ w ≤ st ∧ st ≤ 2 * w) (hk : 0 ≤ k ∧ k ≤ d) : (1 ≤ d * st ∧ d * st ≤ 2000) ∧ 0 ≤ k * st ∧ k * st ≤ 2000 := by
  refine ⟨⟨?_, ?_⟩, ?_, ?_⟩
  · have := Int.mul_le_mul (a := 1) (b := 1) (c := d) (d := st) (by omega) (by omega) (by omega) (by omega); omega
  · have := Int.mul_le_mul (a := d) (b := st) (c := 20) (d := 100) (by omega) (by omega) (by omega) (by omega); omega
  · exact Int.mul_nonneg hk.1 (by omega)
  · have := Int.mul_le_mul (a := k) (b := st) (c := 20) (d := 100) (by omega) (by omega) (by omega) (by omega); omega
def val100 : Val := fun das => match das with | [.st [.i .i64 m, .i .i64 v, .i .i64 st, .i .i64 d, .i .i64 w, .sl 1 len f], .one (.i .i64 k)] => some (cond (stemB m v st d w) (kOk d k) false, .int .i64 (shal v st w k)) | _ => none
def val101 : Val := fun das => match das with | [.st [.i .i64 m, .i .i64 v, .i .i64 st, .i .i64 d, .i .i64 w, .sl 1 len f], .one (.i .i64 k)] => some (cond (stemB m v st d w) (kOk d k) false, .int .i64 (deep v st d w k)) | _ => none
theorem con100 : Con Try.prog 100 val100 := by
  intro das x hv
  unfold val100 at hv
  split at hv
  · rename_i m v st d w len f k
    have hb := congrArg Prod.fst (Option.some.inj hv)
    have hv := congrArg Prod.snd (Option.some.inj hv)
    subst hv
    obtain ⟨h1, h2⟩ := cond_tt hb
    have hs := of_decide_eq_true h1
    have bd := kst_bd hs (kOk_get h2)
    exact con_run drawnC noExt_ok rfl (das := [spD m v st d w len f, .one (.i .i64 k)]) (r100 m v st d w len f k hs bd.1 bd.2)
  · cases hv
theorem con101 : Con Try.prog 101 val101 := by
  intro das x hv
  unfold val101 at hv
  split at hv
  · rename_i m v st d w len f k
    have hb := congrArg Prod.fst (Option.some.inj hv)
    have hv := congrArg Prod.snd (Option.some.inj hv)
    subst hv
    obtain ⟨h1, h2⟩ := cond_tt hb
    have hs := of_decide_eq_true h1
    have bd := kst_bd hs (kOk_get h2)
    exact con_run drawnC noExt_ok rfl (das := [spD m v st d w len f, .one (.i .i64 k)]) (r101 m v st d w len f k hs bd.1 bd.2)
  · cases hv
def X6 : Ext := conX [(88, cf val88), (73, cf val73), (100, cf val100), (101, cf val101), (102, cf val102)] false
theorem X6_ok : ExtOK Try.prog X6 := conX_ok (allCon_cons (con_ok con88) (allCon_cons (con_ok con73) (allCon_cons (con_ok con100) (allCon_cons (con_ok con101) (allCon_cons (con_ok con102) allCon_nil)))))
end
end Go.Proofs.Ytmmokemjibdinaa
/- Stage 1: contracts: whether a spindle floats; what is meant by what was seen. -/
namespace Go.Proofs.Ytmmokemjibdinaa
open Go Go.Ev
set_option maxRecDepth 1000000
noncomputable section
def restI (lo hi dens : Int) : Int := cond (iLe lo dens) (cond (iLe dens hi) 0 (-2)) (-1)
theorem restI_lo {lo hi dens : Int} (h : dens < lo) : -1 = restI lo hi dens := by unfold restI; rw [(iLe_f lo dens).mpr h]; rfl
theorem restI_hi {lo hi dens : Int} (h : lo ≤ dens) (h2 : hi < dens) : -2 = restI lo hi dens := by unfold restI; rw [(iLe_t lo dens).mpr h, (iLe_f dens hi).mpr h2]; rfl
theorem restI_0 {lo hi dens : Int} (h : lo ≤ dens) (h2 : dens ≤ hi) : 0 = restI lo hi dens := by unfold restI; rw [(iLe_t lo dens).mpr h, (iLe_t dens hi).mpr h2]; rfl
def floR (m v st d : Int) (f : Nat → Nat → Int) (load dens : Int) : Int := restI (loB (mI m f load) (v + d * st)) (hiB (mI m f load) v) dens
theorem r62 (m v st d w : Int) (len : Nat) (f : Nat → Nat → Int) (load dens : Int) (hs : 1 ≤ m ∧ m ≤ 5000 ∧ 1 ≤ v ∧ v ≤ 5000 ∧ 1 ≤ st ∧ st ≤ 100 ∧ 1 ≤ d ∧ d ≤ 20 ∧ 1 ≤ w ∧ w ≤ st ∧ st ≤ 2 * w) (hp : 1 ≤ d * st ∧ d * st ≤ 2000) (hk : mOkB m len f load = true) (hm : 1 ≤ mI m f load ∧ mI m f load ≤ 6000) : vc (runD0 Try.prog X6 300 62 (enc [spD m v st d w len f, .one (.i .i64 load), .one (.i .i64 dens)] 0) 1 (fun x => valP x (.int .i64 (restI (loB (mI m f load) (v + d * st)) (hiB (mI m f load) v) dens)))) (.go 85 (.sp .nil (.sp .nil .nil))) := of_eq (q := ((small (d * st)) = true ∧ ((small (v + (d * st))) = true ∧ ((cond (cond (cond (allI IntKind.i64 (cellsI IntKind.i64 f) len 1) true false) true false) (cond (mOkB m len f load) (cond (iLe (1) v) (cond (iLe (1) (v + (d * st))) (iLe (v + (d * st)) (10000)) false) false) false) false) = true ∧ (((not (iLe (loB (mI m f load) (v + (d * st))) dens)) = true → (((-1) : Int) = (restI (loB (mI m f load) (v + (d * st))) (hiB (mI m f load) v) dens))) ∧
  ((not (iLe (loB (mI m f load) (v + (d * st))) dens)) = false → (((not (iLe dens (hiB (mI m f load) v))) = true → (((-2) : Int) = (restI (loB (mI m f load) (v + (d * st))) (hiB (mI m f load) v) dens))) ∧
  ((not (iLe dens (hiB (mI m f load) v))) = false → (((0) : Int) = (restI (loB (mI m f load) (v + (d * st))) (hiB (mI m f load) v) dens)))))))))) (by kernel_rfl) (by (try simp only [iLe_t, iLe_f, iEq_t, iEq_f, small_t, small_f, cmin, cmax, not_t, not_f, boolEq_t, boolEq_f, ble_t, ble_f, blt_t, blt_f, beq_t, beq_f, iIn_t, iIn_f, allI_cells, cond_true, cond_false, true_and, and_true, eq_self]); (repeat' (first | exact True.intro | (with_reducible assumption) | refine And.intro ?_ ?_ | refine cond_mk ?_ ?_ | intro _)); all_goals (first | omega | assumption | rfl | exact restI_lo (by omega) | exact restI_hi (by omega) (by omega) | exact restI_0 (by omega) (by omega) | (simp only [iLe_t, iLe_f, iEq_t, iEq_f, small_t, small_f, cmin, cmax, not_t, not_f, boolEq_t, boolEq_f, ble_t, ble_f, blt_t, blt_f, beq_t, beq_f, iIn_t, iIn_f, allI_cells, cond_true, cond_false, true_and, and_true, eq_self]; first | done | omega | assumption)))
def val62 : Val := fun das => match das with | [.st [.i .i64 m, .i .i64 v, .i .i64 st, .i .i64 d, .i .i64 w, .sl 1 len f], .one (.i .i64 load), .one (.i .i64 dens)] => some (sOk m v st d w len f load, .int .i64 (floR m v st d f load dens)) | _ => none
theorem con62 : Con Try.prog 62 val62 := by
  intro das x hv
  unfold val62 at hv
  split at hv
  · rename_i m v st d w len f load dens
    have hb := congrArg Prod.fst (Option.some.inj hv)
    have hv := congrArg Prod.snd (Option.some.inj hv)
    subst hv
    obtain ⟨h1, h2, h3, h4⟩ := sOk_get hb
    exact con_run drawnC X6_ok rfl (das := [spD m v st d w len f, .one (.i .i64 load), .one (.i .i64 dens)]) (r62 m v st d w len f load dens h1 h2 h3 h4)
  · cases hv
/-! what is meant -/
def mnL (μ v st d w s : Int) : Int := cond (iEq s (-1)) 1 (cond (iEq s (-2)) (max 1 (hiB μ v + 1)) (max 1 (loB μ (deep v st d w s))))
def mnH (μ v st d w s : Int) : Int := cond (iEq s (-1)) (min 2000 (loB μ (v + d * st) - 1)) (cond (iEq s (-2)) 2000 (min 2000 (hiB μ (shal v st w s))))
theorem r68a (m v st d w : Int) (len : Nat) (f : Nat → Nat → Int) (load s : Int) (hz : s = -1) (hs : 1 ≤ m ∧ m ≤ 5000 ∧ 1 ≤ v ∧ v ≤ 5000 ∧ 1 ≤ st ∧ st ≤ 100 ∧ 1 ≤ d ∧ d ≤ 20 ∧ 1 ≤ w ∧ w ≤ st ∧ st ≤ 2 * w) (hp : 1 ≤ d * st ∧ d * st ≤ 2000) (hk : mOkB m len f load = true) (hm : 1 ≤ mI m f load ∧ mI m f load ≤ 6000) (hb1 : 0 ≤ loB (mI m f load) (v + d * st) ∧ loB (mI m f load) (v + d * st) ≤ 6010000) (hb2 : 0 ≤ hiB (mI m f load) v ∧ hiB (mI m f load) v ≤ 6000000) (hst : stemB m v st d w = true) : vc (runD0 Try.prog X6 300 68 (enc [spD m v st d w len f, .st [.i .i64 load, .i .i64 s]] 0) 1 (fun x => valP x (.agg 2 (T.setL .lf 0 [.int .i64 1, .int .i64 (min 2000 (loB (mI m f load) (v + d * st) - 1))])))) (.go 1365 .nil) := of_eq (q := ((small (d * st)) = true ∧ ((small (v + (d * st))) = true ∧ ((cond (cond (cond (allI IntKind.i64 (cellsI IntKind.i64 f) len 1) true false) true false) (cond (mOkB m len f load) (cond (iLe (1) v) (cond (iLe (1) (v + (d * st))) (iLe (v + (d * st)) (10000)) false) false) false) false) = true ∧ ((iEq s (-1)) = true ∧ ((small ((loB (mI m f load) (v + (d * st))) - (1))) = true ∧ ((((max (1) (1)) : Int) = (1)) ∧ ((((min (2000) ((loB (mI m f load) (v + (d * st))) - (1))) : Int) = (min (2000) ((loB (mI m f load) (v + (d * st))) - (1)))) ∧ True)))))))) (by kernel_rfl) (by (try simp only [iLe_t, iLe_f, iEq_t, iEq_f, small_t, small_f, cmin, cmax, not_t, not_f, boolEq_t, boolEq_f, ble_t, ble_f, blt_t, blt_f, beq_t, beq_f, iIn_t, iIn_f, allI_cells, cond_true, cond_false, true_and, and_true, eq_self]); (repeat' (first | exact True.intro | (with_reducible assumption) | refine And.intro ?_ ?_ | refine cond_mk ?_ ?_ | intro _)); all_goals (first | omega | (with_reducible assumption) | rfl | (simp only [iLe_t, iLe_f, iEq_t, iEq_f, small_t, small_f, cmin, cmax, not_t, not_f, boolEq_t, boolEq_f, ble_t, ble_f, blt_t, blt_f, beq_t, beq_f, iIn_t, iIn_f, allI_cells, cond_true, cond_false, true_and, and_true, eq_self]; first | done | omega | (with_reducible assumption) | rfl)))
theorem r68b (m v st d w : Int) (len : Nat) (f : Nat → Nat → Int) (load s : Int) (hz : s = -2) (hs : 1 ≤ m ∧ m ≤ 5000 ∧ 1 ≤ v ∧ v ≤ 5000 ∧ 1 ≤ st ∧ st ≤ 100 ∧ 1 ≤ d ∧ d ≤ 20 ∧ 1 ≤ w ∧ w ≤ st ∧ st ≤ 2 * w) (hp : 1 ≤ d * st ∧ d * st ≤ 2000) (hk : mOkB m len f load = true) (hm : 1 ≤ mI m f load ∧ mI m f load ≤ 6000) (hb1 : 0 ≤ loB (mI m f load) (v + d * st) ∧ loB (mI m f load) (v + d * st) ≤ 6010000) (hb2 : 0 ≤ hiB (mI m f load) v ∧ hiB (mI m f load) v ≤ 6000000) (hst : stemB m v st d w = true) : vc (runD0 Try.prog X6 300 68 (enc [spD m v st d w len f, .st [.i .i64 load, .i .i64 s]] 0) 1 (fun x => valP x (.agg 2 (T.setL .lf 0 [.int .i64 (max 1 (hiB (mI m f load) v + 1)), .int .i64 2000])))) (.go 5525 .nil) := of_eq (q := ((small (d * st)) = true ∧ ((small (v + (d * st))) = true ∧ ((cond (cond (cond (allI IntKind.i64 (cellsI IntKind.i64 f) len 1) true false) true false) (cond (mOkB m len f load) (cond (iLe (1) v) (cond (iLe (1) (v + (d * st))) (iLe (v + (d * st)) (10000)) false) false) false) false) = true ∧ ((iEq s (-1)) = false ∧ ((iEq s (-2)) = true ∧ ((small ((hiB (mI m f load) v) + (1))) = true ∧ ((((max (1) ((hiB (mI m f load) v) + (1))) : Int) = (max (1) ((hiB (mI m f load) v) + (1)))) ∧ ((((min (2000) (2000)) : Int) = (2000)) ∧ True))))))))) (by kernel_rfl) (by (try simp only [iLe_t, iLe_f, iEq_t, iEq_f, small_t, small_f, cmin, cmax, not_t, not_f, boolEq_t, boolEq_f, ble_t, ble_f, blt_t, blt_f, beq_t, beq_f, iIn_t, iIn_f, allI_cells, cond_true, cond_false, true_and, and_true, eq_self]); (repeat' (first | exact True.intro | (with_reducible assumption) | refine And.intro ?_ ?_ | refine cond_mk ?_ ?_ | intro _)); all_goals (first | omega | (with_reducible assumption) | rfl | (simp only [iLe_t, iLe_f, iEq_t, iEq_f, small_t, small_f, cmin, cmax, not_t, not_f, boolEq_t, boolEq_f, ble_t, ble_f, blt_t, blt_f, beq_t, beq_f, iIn_t, iIn_f, allI_cells, cond_true, cond_false, true_and, and_true, eq_self]; first | done | omega | (with_reducible assumption) | rfl)))
theorem r68c (m v st d w : Int) (len : Nat) (f : Nat → Nat → Int) (load s : Int) (hz : 0 ≤ s) (hz2 : s ≤ d) (hsh : 1 ≤ shal v st w s) (hdp : 1 ≤ deep v st d w s ∧ deep v st d w s ≤ 10000) (hs : 1 ≤ m ∧ m ≤ 5000 ∧ 1 ≤ v ∧ v ≤ 5000 ∧ 1 ≤ st ∧ st ≤ 100 ∧ 1 ≤ d ∧ d ≤ 20 ∧ 1 ≤ w ∧ w ≤ st ∧ st ≤ 2 * w) (hp : 1 ≤ d * st ∧ d * st ≤ 2000) (hk : mOkB m len f load = true) (hm : 1 ≤ mI m f load ∧ mI m f load ≤ 6000) (hb1 : 0 ≤ loB (mI m f load) (v + d * st) ∧ loB (mI m f load) (v + d * st) ≤ 6010000) (hb2 : 0 ≤ hiB (mI m f load) v ∧ hiB (mI m f load) v ≤ 6000000) (hst : stemB m v st d w = true) : vc (runD0 Try.prog X6 300 68 (enc [spD m v st d w len f, .st [.i .i64 load, .i .i64 s]] 0) 1 (fun x => valP x (.agg 2 (T.setL .lf 0 [.int .i64 (max 1 (loB (mI m f load) (deep v st d w s))), .int .i64 (min 2000 (hiB (mI m f load) (shal v st w s)))])))) (.go 87701 .nil) := of_eq (q := ((small (d * st)) = true ∧ ((small (v + (d * st))) = true ∧ ((cond (cond (cond (allI IntKind.i64 (cellsI IntKind.i64 f) len 1) true false) true false) (cond (mOkB m len f load) (cond (iLe (1) v) (cond (iLe (1) (v + (d * st))) (iLe (v + (d * st)) (10000)) false) false) false) false) = true ∧ ((iEq s (-1)) = false ∧ ((iEq s (-2)) = false ∧ ((cond (cond (cond (allI IntKind.i64 (cellsI IntKind.i64 f) len 1) true false) true false) (cond (stemB m v st d w) (cond (iLe (0) s) (iLe s d) false) false) false) = true ∧ ((cond (cond (cond (allI IntKind.i64 (cellsI IntKind.i64 f) len 1) true false) true false) (cond (stemB m v st d w) (cond (iLe (0) s) (iLe s d) false) false) false) = true ∧ ((cond (cond (cond (allI IntKind.i64 (cellsI IntKind.i64 f) len 1) true false) true false) (cond (mOkB m len f load) (cond (iLe (1) (shal v st w s)) (cond (iLe (1) (deep v st d w s)) (iLe (deep v st d w s) (10000)) false) false) false) false) = true ∧ ((((max (1) (loB (mI m f load) (deep v st d w s))) : Int) = (max (1) (loB (mI m f load) (deep v st d w s)))) ∧ ((((min (2000) (hiB (mI m f load) (shal v st w s))) : Int) = (min (2000) (hiB (mI m f load) (shal v st w s)))) ∧ True))))))))))) (by kernel_rfl) (by (try simp only [iLe_t, iLe_f, iEq_t, iEq_f, small_t, small_f, cmin, cmax, not_t, not_f, boolEq_t, boolEq_f, ble_t, ble_f, blt_t, blt_f, beq_t, beq_f, iIn_t, iIn_f, allI_cells, cond_true, cond_false, true_and, and_true, eq_self]); (repeat' (first | exact True.intro | (with_reducible assumption) | refine And.intro ?_ ?_ | refine cond_mk ?_ ?_ | intro _)); all_goals (first | omega | (with_reducible assumption) | rfl | (simp only [iLe_t, iLe_f, iEq_t, iEq_f, small_t, small_f, cmin, cmax, not_t, not_f, boolEq_t, boolEq_f, ble_t, ble_f, blt_t, blt_f, beq_t, beq_f, iIn_t, iIn_f, allI_cells, cond_true, cond_false, true_and, and_true, eq_self]; first | done | omega | (with_reducible assumption) | rfl)))
theorem shal_bd {m v st d w s : Int} (hs : 1 ≤ m ∧ m ≤ 5000 ∧ 1 ≤ v ∧ v ≤ 5000 ∧ 1 ≤ st ∧ st ≤ 100 ∧ 1 ≤ d ∧ d ≤ 20 ∧ 1 ≤ w ∧ w ≤ st ∧ st ≤ 2 * w) (hk : 0 ≤ s ∧ s ≤ d) : 1 ≤ shal v st w s ∧ 1 ≤ deep v st d w s ∧ deep v st d w s ≤ 10000 := by
  obtain ⟨⟨h1, h2⟩, h3, h4⟩ := kst_bd hs hk
  unfold shal deep
  omega
def val68 : Val := fun das => match das with | [.st [.i .i64 m, .i .i64 v, .i .i64 st, .i .i64 d, .i .i64 w, .sl 1 len f], .st [.i .i64 load, .i .i64 s]] => some (cond (sOk m v st d w len f load) (cond (iLe (-2) s) (iLe s d) false) false, .agg 2 (T.setL .lf 0 [.int .i64 (mnL (mI m f load) v st d w s), .int .i64 (mnH (mI m f load) v st d w s)])) | _ => none
theorem con68 : Con Try.prog 68 val68 := by
  intro das x hv
  unfold val68 at hv
  split at hv
  · rename_i m v st d w len f load s
    have hb := congrArg Prod.fst (Option.some.inj hv)
    have hv := congrArg Prod.snd (Option.some.inj hv)
    subst hv
    obtain ⟨hb, hb2⟩ := cond_tt hb
    obtain ⟨hb2, hb3⟩ := cond_tt hb2
    rw [iLe_t] at hb2 hb3
    have hst : stemB m v st d w = true := (cond_tt hb).1
    obtain ⟨h1, h2, h3, h4⟩ := sOk_get hb
    have b1 := loB_bd (μ := mI m f load) (dp := v + d * st) h4 (by omega) (by omega)
    have b2 := hiB_bd (μ := mI m f load) (dp := v) h4 (by omega)
    by_cases e1 : s = -1
    · have q1 : mnL (mI m f load) v st d w s = 1 := by unfold mnL; rw [(iEq_t s (-1)).mpr e1]; rfl
      have q2 : mnH (mI m f load) v st d w s = min 2000 (loB (mI m f load) (v + d * st) - 1) := by unfold mnH; rw [(iEq_t s (-1)).mpr e1]; rfl
      rw [q1, q2]
      exact con_run drawnC X6_ok rfl (das := [spD m v st d w len f, .st [.i .i64 load, .i .i64 s]]) (r68a m v st d w len f load s e1 h1 h2 h3 h4 b1 b2 hst)
    · by_cases e2 : s = -2
      · have q1 : mnL (mI m f load) v st d w s = max 1 (hiB (mI m f load) v + 1) := by unfold mnL; rw [(iEq_f s (-1)).mpr e1, (iEq_t s (-2)).mpr e2]; rfl
        have q2 : mnH (mI m f load) v st d w s = 2000 := by unfold mnH; rw [(iEq_f s (-1)).mpr e1, (iEq_t s (-2)).mpr e2]; rfl
        rw [q1, q2]
        exact con_run drawnC X6_ok rfl (das := [spD m v st d w len f, .st [.i .i64 load, .i .i64 s]]) (r68b m v st d w len f load s e2 h1 h2 h3 h4 b1 b2 hst)
      · have q1 : mnL (mI m f load) v st d w s = max 1 (loB (mI m f load) (deep v st d w s)) := by unfold mnL; rw [(iEq_f s (-1)).mpr e1, (iEq_f s (-2)).mpr e2]; rfl
        have q2 : mnH (mI m f load) v st d w s = min 2000 (hiB (mI m f load) (shal v st w s)) := by unfold mnH; rw [(iEq_f s (-1)).mpr e1, (iEq_f s (-2)).mpr e2]; rfl
        rw [q1, q2]
        have bd := shal_bd h1 (s := s) ⟨by omega, hb3⟩
        exact con_run drawnC X6_ok rfl (das := [spD m v st d w len f, .st [.i .i64 load, .i .i64 s]]) (r68c m v st d w len f load s (by omega) hb3 bd.1 bd.2 h1 h2 h3 h4 b1 b2 hst)
  · cases hv
end
end Go.Proofs.Ytmmokemjibdinaa
/- Stage 1: contracts: the divisions that can be read. -/
namespace Go.Proofs.Ytmmokemjibdinaa
open Go Go.Ev
set_option maxRecDepth 1000000
noncomputable section
def hB (μ v st d w dens : Int) (k : Nat) : Bool := cond (iLe (mnL μ v st d w k) dens) (iLe dens (mnH μ v st d w k)) false
def rdL (μ v st d w dens : Int) : Nat → Int
  | 0 => d
  | k + 1 => cond (hB μ v st d w dens k) (min (rdL μ v st d w dens k) k) (rdL μ v st d w dens k)
def rdH (μ v st d w dens : Int) : Nat → Int
  | 0 => 0
  | k + 1 => cond (hB μ v st d w dens k) k (rdH μ v st d w dens k)
def base63 (m v st d w : Int) (len : Nat) (f : Nat → Nat → Int) : EH := lowTo (mkH 2 [row59 m v st d w len f, [.int .i64 0, .int .i64 0], [.int .i64 d, .int .i64 0]]) 4
def lt63 : LT := ⟨[1,2,3,6,7,16,17],[6,7],[],4⟩
def s63 (d load dens : Int) (k : Nat) (lo hi : Int) : LS := ⟨[.int .i64 load, .int .i64 dens, .ptr 2 0, .ptr 3 0, .ptr 4 0, .int .i64 (d + 1), .int .i64 k], [[.int .i64 lo, .int .i64 hi]]⟩
def x63 (lo hi : Int) : Lv := .exit 0 ⟨[.ptr 3 0, .ptr 4 0], [[.int .i64 lo, .int .i64 hi]]⟩
def b63 : Code := sub [1,1,0,1,0,0] (bodyOf Try.prog 63)
def X8 : Ext := conX [(68, cf val68)] false
theorem X8_ok : ExtOK Try.prog X8 := conX_ok (allCon_cons (con_ok con68) allCon_nil)
end
end Go.Proofs.Ytmmokemjibdinaa
/- Stage 1: contracts: the divisions that can be read. -/
namespace Go.Proofs.Ytmmokemjibdinaa
open Go Go.Ev
set_option maxRecDepth 1000000
noncomputable section
theorem e63 (m v st d w : Int) (len : Nat) (f : Nat → Nat → Int) (load dens : Int) (ho : sOk m v st d w len f load = true) (hd : 1 ≤ d ∧ d ≤ 20) : vc (entD Try.prog X8 300 63 [1,1,0,1,0] [spD m v st d w len f, .one (.i .i64 load), .one (.i .i64 dens)] (base63 m v st d w len f) lt63 37 100 (s63 d load dens 0 d 0)) (.go 5 .nil) := of_eq (q := ((small (d + (1))) = true ∧ ((True ∧ ((True ∧ ((((((0) : Int) = (0)) ∧ (((((0) : Int) = (0)) ∧ (True ∧ True)) ∧ True)) ∧ (True ∧ True)) ∧ True)) ∧ ((((m : Int) = m) ∧ ((((v : Int) = v) ∧ ((((d : Int) = d) ∧ (True ∧ True)) ∧ (((V.fz true
  (nxA (D0.i IntKind.i64 w)
    (nxA (D0.i IntKind.i64 d) (nxA (D0.i IntKind.i64 st) (nxA (D0.i IntKind.i64 v) (nxA (D0.i IntKind.i64 m) 0)))))
  (cellsI IntKind.i64 f) len 1 : V) = V.fz true
  (nxA (D0.i IntKind.i64 w)
    (nxA (D0.i IntKind.i64 d) (nxA (D0.i IntKind.i64 st) (nxA (D0.i IntKind.i64 v) (nxA (D0.i IntKind.i64 m) 0)))))
  (cellsI IntKind.i64 f) len 1) ∧ (True ∧ True)))) ∧ (((st : Int) = st) ∧ ((((w : Int) = w) ∧ (True ∧ True)) ∧ True)))) ∧ (((((d : Int) = d) ∧ (((((0) : Int) = (0)) ∧ (True ∧ True)) ∧ True)) ∧ (True ∧ True)) ∧ True)))) ∧ ((((load : Int) = load) ∧ (((dens : Int) = dens) ∧ (((V.ptr (Nat.succ 1) 0 : V) = V.ptr 2 0) ∧ (((V.ptr (Nat.succ 2) 0 : V) = V.ptr 3 0) ∧ (((V.ptr (Nat.succ 3) 0 : V) = V.ptr 4 0) ∧ ((((d + (1)) : Int) = (d + (1))) ∧ ((((0) : Int) = ((0 : Nat) : Int)) ∧ True))))))) ∧ ((((d : Int) = d) ∧ ((((0) : Int) = (0)) ∧ True)) ∧ True))))) (by kernel_rfl) (by (try simp only [iLe_t, iLe_f, iEq_t, iEq_f, small_t, small_f, cmin, cmax, not_t, not_f, boolEq_t, boolEq_f, ble_t, ble_f, blt_t, blt_f, beq_t, beq_f, iIn_t, iIn_f, allI_cells, cond_true, cond_false, true_and, and_true, eq_self]); (repeat' (first | exact True.intro | (with_reducible assumption) | refine And.intro ?_ ?_ | refine cond_mk ?_ ?_ | intro _)); all_goals (first | omega | (with_reducible assumption) | rfl | (simp only [iLe_t, iLe_f, iEq_t, iEq_f, small_t, small_f, cmin, cmax, not_t, not_f, boolEq_t, boolEq_f, ble_t, ble_f, blt_t, blt_f, beq_t, beq_f, iIn_t, iIn_f, allI_cells, cond_true, cond_false, true_and, and_true, eq_self]; first | done | omega | (with_reducible assumption) | rfl)))
theorem r63a (m v st d w : Int) (len : Nat) (f : Nat → Nat → Int) (load dens : Int) (k : Nat) (lo hi : Int) (ho : sOk m v st d w len f load = true) (hd : 1 ≤ d ∧ d ≤ 20) (hk : k ≤ d) (ha : mnL (mI m f load) v st d w k ≤ dens) (hb : dens ≤ mnH (mI m f load) v st d w k) : vc (roundD Try.prog X8 300 b63 (base63 m v st d w len f) lt63 37 100 (s63 d load dens k lo hi) (.next (s63 d load dens (k + 1) (min lo k) k))) (.go 266261 (.sp (.go 80 .nil) (.go 80 .nil))) := of_eq (q := ((not (iLe (d + (1)) ((k : Nat) : Int))) = true ∧ ((cond (cond (cond (allI IntKind.i64 (cellsI IntKind.i64 f) len 1) true false) true false) (cond (sOk m v st d w len f load) (cond true (iLe ((k : Nat) : Int) d) false) false) false) = true ∧ ((iLe (mnL (mI m f load) v st d w ((k : Nat) : Int)) dens) = true ∧ ((iLe dens (mnH (mI m f load) v st d w ((k : Nat) : Int))) = true ∧ (((not (iLe lo ((k : Nat) : Int))) = true → ((small (((k : Nat) : Int) + (1))) = true ∧ ((((load : Int) = load) ∧ (((dens : Int) = dens) ∧ (((V.ptr 2 0 : V) = V.ptr 2 0) ∧ (((V.ptr 3 0 : V) = V.ptr 3 0) ∧ (((V.ptr 4 0 : V) = V.ptr 4 0) ∧ ((((d + (1)) : Int) = (d + (1))) ∧ ((((((k : Nat) : Int) + (1)) : Int) = (((k + 1) : Nat) : Int)) ∧ True))))))) ∧ ((((((k : Nat) : Int) : Int) = (min lo ((k : Nat) : Int))) ∧ (((((k : Nat) : Int) : Int) = ((k : Nat) : Int)) ∧ True)) ∧ True)))) ∧
  ((not (iLe lo ((k : Nat) : Int))) = false → ((small (((k : Nat) : Int) + (1))) = true ∧ ((((load : Int) = load) ∧ (((dens : Int) = dens) ∧ (((V.ptr 2 0 : V) = V.ptr 2 0) ∧ (((V.ptr 3 0 : V) = V.ptr 3 0) ∧ (((V.ptr 4 0 : V) = V.ptr 4 0) ∧ ((((d + (1)) : Int) = (d + (1))) ∧ ((((((k : Nat) : Int) + (1)) : Int) = (((k + 1) : Nat) : Int)) ∧ True))))))) ∧ ((((lo : Int) = (min lo ((k : Nat) : Int))) ∧ (((((k : Nat) : Int) : Int) = ((k : Nat) : Int)) ∧ True)) ∧ True)))))))))) (by kernel_rfl) (by (try simp only [iLe_t, iLe_f, iEq_t, iEq_f, small_t, small_f, cmin, cmax, not_t, not_f, boolEq_t, boolEq_f, ble_t, ble_f, blt_t, blt_f, beq_t, beq_f, iIn_t, iIn_f, allI_cells, cond_true, cond_false, true_and, and_true, eq_self]); (repeat' (first | exact True.intro | (with_reducible assumption) | refine And.intro ?_ ?_ | refine cond_mk ?_ ?_ | intro _)); all_goals (first | omega | (with_reducible assumption) | rfl | (simp only [iLe_t, iLe_f, iEq_t, iEq_f, small_t, small_f, cmin, cmax, not_t, not_f, boolEq_t, boolEq_f, ble_t, ble_f, blt_t, blt_f, beq_t, beq_f, iIn_t, iIn_f, allI_cells, cond_true, cond_false, true_and, and_true, eq_self]; first | done | omega | (with_reducible assumption) | rfl)))
theorem r63b (m v st d w : Int) (len : Nat) (f : Nat → Nat → Int) (load dens : Int) (k : Nat) (lo hi : Int) (ho : sOk m v st d w len f load = true) (hd : 1 ≤ d ∧ d ≤ 20) (hk : k ≤ d) (ha : ¬ (mnL (mI m f load) v st d w k ≤ dens ∧ dens ≤ mnH (mI m f load) v st d w k)) : vc (roundD Try.prog X8 300 b63 (base63 m v st d w len f) lt63 37 100 (s63 d load dens k lo hi) (.next (s63 d load dens (k + 1) lo hi))) (.go 21 (.sp (.go 1408 .nil) (.go 1280 .nil))) := of_eq (q := ((not (iLe (d + (1)) ((k : Nat) : Int))) = true ∧ ((cond (cond (cond (allI IntKind.i64 (cellsI IntKind.i64 f) len 1) true false) true false) (cond (sOk m v st d w len f load) (cond true (iLe ((k : Nat) : Int) d) false) false) false) = true ∧ (((iLe (mnL (mI m f load) v st d w ((k : Nat) : Int)) dens) = true → ((iLe dens (mnH (mI m f load) v st d w ((k : Nat) : Int))) = false ∧ ((small (((k : Nat) : Int) + (1))) = true ∧ ((((load : Int) = load) ∧ (((dens : Int) = dens) ∧ (((V.ptr 2 0 : V) = V.ptr 2 0) ∧ (((V.ptr 3 0 : V) = V.ptr 3 0) ∧ (((V.ptr 4 0 : V) = V.ptr 4 0) ∧ ((((d + (1)) : Int) = (d + (1))) ∧ ((((((k : Nat) : Int) + (1)) : Int) = (((k + 1) : Nat) : Int)) ∧ True))))))) ∧ ((((lo : Int) = lo) ∧ (((hi : Int) = hi) ∧ True)) ∧ True))))) ∧
  ((iLe (mnL (mI m f load) v st d w ((k : Nat) : Int)) dens) = false → ((small (((k : Nat) : Int) + (1))) = true ∧ ((((load : Int) = load) ∧ (((dens : Int) = dens) ∧ (((V.ptr 2 0 : V) = V.ptr 2 0) ∧ (((V.ptr 3 0 : V) = V.ptr 3 0) ∧ (((V.ptr 4 0 : V) = V.ptr 4 0) ∧ ((((d + (1)) : Int) = (d + (1))) ∧ ((((((k : Nat) : Int) + (1)) : Int) = (((k + 1) : Nat) : Int)) ∧ True))))))) ∧ ((((lo : Int) = lo) ∧ (((hi : Int) = hi) ∧ True)) ∧ True)))))))) (by kernel_rfl) (by (try simp only [iLe_t, iLe_f, iEq_t, iEq_f, small_t, small_f, cmin, cmax, not_t, not_f, boolEq_t, boolEq_f, ble_t, ble_f, blt_t, blt_f, beq_t, beq_f, iIn_t, iIn_f, allI_cells, cond_true, cond_false, true_and, and_true, eq_self]); (repeat' (first | exact True.intro | (with_reducible assumption) | refine And.intro ?_ ?_ | refine cond_mk ?_ ?_ | intro _)); all_goals (first | omega | (with_reducible assumption) | rfl | (simp only [iLe_t, iLe_f, iEq_t, iEq_f, small_t, small_f, cmin, cmax, not_t, not_f, boolEq_t, boolEq_f, ble_t, ble_f, blt_t, blt_f, beq_t, beq_f, iIn_t, iIn_f, allI_cells, cond_true, cond_false, true_and, and_true, eq_self]; first | done | omega | (with_reducible assumption) | rfl)))
theorem r63c (m v st d w : Int) (len : Nat) (f : Nat → Nat → Int) (load dens : Int) (k : Nat) (lo hi : Int) (hk : d < k) : vc (roundD Try.prog X8 300 b63 (base63 m v st d w len f) lt63 37 100 (s63 d load dens k lo hi) (x63 lo hi)) (.go 6 .nil) := of_eq (q := ((not (iLe (d + (1)) ((k : Nat) : Int))) = false ∧ ((((V.ptr 3 0 : V) = V.ptr 3 0) ∧ (((V.ptr 4 0 : V) = V.ptr 4 0) ∧ True)) ∧ ((((lo : Int) = lo) ∧ (((hi : Int) = hi) ∧ True)) ∧ True)))) (by kernel_rfl) (by (try simp only [iLe_t, iLe_f, iEq_t, iEq_f, small_t, small_f, cmin, cmax, not_t, not_f, boolEq_t, boolEq_f, ble_t, ble_f, blt_t, blt_f, beq_t, beq_f, iIn_t, iIn_f, allI_cells, cond_true, cond_false, true_and, and_true, eq_self]); (repeat' (first | exact True.intro | (with_reducible assumption) | refine And.intro ?_ ?_ | refine cond_mk ?_ ?_ | intro _)); all_goals (first | omega | (with_reducible assumption) | rfl | (simp only [iLe_t, iLe_f, iEq_t, iEq_f, small_t, small_f, cmin, cmax, not_t, not_f, boolEq_t, boolEq_f, ble_t, ble_f, blt_t, blt_f, beq_t, beq_f, iIn_t, iIn_f, allI_cells, cond_true, cond_false, true_and, and_true, eq_self]; first | done | omega | (with_reducible assumption) | rfl)))
theorem f63 (m v st d w : Int) (len : Nat) (f : Nat → Nat → Int) (lo hi : Int) : vc (fromD Try.prog X8 300 63 [1,1,0,1,0] (Lv.res lt63 37 (endH (base63 m v st d w len f) lt63 100 (x63 lo hi)) (x63 lo hi)) (.agg 2 (T.setL .lf 0 [.int .i64 lo, .int .i64 hi]))) .nil := of_eq (q := (((lo : Int) = lo) ∧ (((hi : Int) = hi) ∧ True))) (by kernel_rfl) (by (try simp only [iLe_t, iLe_f, iEq_t, iEq_f, small_t, small_f, cmin, cmax, not_t, not_f, boolEq_t, boolEq_f, ble_t, ble_f, blt_t, blt_f, beq_t, beq_f, iIn_t, iIn_f, allI_cells, cond_true, cond_false, true_and, and_true, eq_self]); (repeat' (first | exact True.intro | (with_reducible assumption) | refine And.intro ?_ ?_ | refine cond_mk ?_ ?_ | intro _)); all_goals (first | omega | (with_reducible assumption) | rfl | (simp only [iLe_t, iLe_f, iEq_t, iEq_f, small_t, small_f, cmin, cmax, not_t, not_f, boolEq_t, boolEq_f, ble_t, ble_f, blt_t, blt_f, beq_t, beq_f, iIn_t, iIn_f, allI_cells, cond_true, cond_false, true_and, and_true, eq_self]; first | done | omega | (with_reducible assumption) | rfl)))
def readN (d : Int) : Nat := Int.toNat (d + 1)
def val63 : Val := fun das => match das with | [.st [.i .i64 m, .i .i64 v, .i .i64 st, .i .i64 d, .i .i64 w, .sl 1 len f], .one (.i .i64 load), .one (.i .i64 dens)] => some (sOk m v st d w len f load, .agg 2 (T.setL .lf 0 [.int .i64 (rdL (mI m f load) v st d w dens (readN d)), .int .i64 (rdH (mI m f load) v st d w dens (readN d))])) | _ => none
theorem con63 : Con Try.prog 63 val63 := by
  intro das x hv
  unfold val63 at hv
  split at hv
  · rename_i m v st d w len f load dens
    have ho := congrArg Prod.fst (Option.some.inj hv)
    have hv := congrArg Prod.snd (Option.some.inj hv)
    subst hv
    obtain ⟨h1, _, _, _⟩ := sOk_get ho
    have hd : 1 ≤ d ∧ d ≤ 20 := by omega
    have hN : (readN d : Int) = d + 1 := by unfold readN; omega
    refine ⟨rfl, ?_⟩
    refine con_loopD drawnC X8_ok (lv := x63 (rdL (mI m f load) v st d w dens (readN d)) (rdH (mI m f load) v st d w dens (readN d))) (by kernel_rfl) (by kernel_rfl) (e63 m v st d w len f load dens ho hd)
      (loop_rule (body := b63) (fun _ e => by cases e) (readN d) (fun k => s63 d load dens k (rdL (mI m f load) v st d w dens k) (rdH (mI m f load) v st d w dens k)) (fun k hk => ?_) ?_) (f63 m v st d w len f _ _)
    · cases hh : hB (mI m f load) v st d w dens k with
      | true =>
        have e1 : rdL (mI m f load) v st d w dens (k + 1) = min (rdL (mI m f load) v st d w dens k) k := by show cond _ _ _ = _; rw [hh]; rfl
        have e2 : rdH (mI m f load) v st d w dens (k + 1) = k := by show cond _ _ _ = _; rw [hh]; rfl
        rw [e1, e2]
        obtain ⟨q1, q2⟩ := cond_tt hh
        rw [iLe_t] at q1 q2
        exact round_of drawnC X8_ok (r63a m v st d w len f load dens k _ _ ho hd (by omega) q1 q2) (by kernel_rfl) (by kernel_rfl)
      | false =>
        have e1 : rdL (mI m f load) v st d w dens (k + 1) = rdL (mI m f load) v st d w dens k := by show cond _ _ _ = _; rw [hh]; rfl
        have e2 : rdH (mI m f load) v st d w dens (k + 1) = rdH (mI m f load) v st d w dens k := by show cond _ _ _ = _; rw [hh]; rfl
        rw [e1, e2]
        refine round_of drawnC X8_ok (r63b m v st d w len f load dens k _ _ ho hd (by omega) (fun q => ?_)) (by kernel_rfl) (by kernel_rfl)
        have : hB (mI m f load) v st d w dens k = true := cond_mk ((iLe_t _ _).mpr q.1) ((iLe_t _ _).mpr q.2)
        rw [hh] at this; cases this
    · exact round_of drawnC X8_ok (r63c m v st d w len f load dens (readN d) _ _ (by omega)) (by kernel_rfl) (by kernel_rfl)
  · cases hv
end
end Go.Proofs.Ytmmokemjibdinaa
/- Stage 1: contracts: Floats. -/
namespace Go.Proofs.Ytmmokemjibdinaa
open Go Go.Ev
set_option maxRecDepth 1000000
noncomputable section
def inRg (len : Nat) (load dens : Int) : Bool := cond (iLe 0 load) (cond (iLe load len) (cond (iLe 1 dens) (iLe dens 2000) false) false) false
theorem inRg_t {len : Nat} {load dens : Int} (h : 0 ≤ load ∧ load ≤ len ∧ 1 ≤ dens ∧ dens ≤ 2000) : inRg len load dens = true := cond_mk ((iLe_t _ _).mpr h.1) (cond_mk ((iLe_t _ _).mpr h.2.1) (cond_mk ((iLe_t _ _).mpr h.2.2.1) ((iLe_t _ _).mpr h.2.2.2)))
theorem inRg_get {len : Nat} {load dens : Int} (h : inRg len load dens = true) : 0 ≤ load ∧ load ≤ len ∧ 1 ≤ dens ∧ dens ≤ 2000 := by
  obtain ⟨h1, h⟩ := cond_tt h
  obtain ⟨h2, h⟩ := cond_tt h
  obtain ⟨h3, h4⟩ := cond_tt h
  rw [iLe_t] at h1 h2 h3 h4
  exact ⟨h1, h2, h3, h4⟩
def errF (ck : Int) (inr : Bool) : Int := cond (iEq ck 0) (cond inr 0 2) ck
theorem errF_ck {ck : Int} {inr : Bool} (h : ¬ ck = 0) : errF ck inr = ck := by unfold errF; rw [(iEq_f _ _).mpr h]; rfl
theorem errF_in {ck : Int} {inr : Bool} (h : ck = 0) : errF ck inr = cond inr 0 2 := by unfold errF; rw [(iEq_t _ _).mpr h]; rfl
/-- a valid spindle -/
theorem ck0 {m v st d w : Int} {len : Nat} {f : Nat → Nat → Int} (h : ckS m v st d w len f = 0) : len ≤ 6 ∧ (∀ i, i < len → 1 ≤ f i 0 ∧ f i 0 ≤ 1000) ∧ stemB m v st d w = true := by
  by_cases hl : len ≤ 6
  · rw [ckS_small hl] at h
    cases h1 : allW len f with
    | false => rw [h1] at h; cases h
    | true =>
      rw [h1] at h
      cases h2 : stemB m v st d w with
      | false => rw [h2] at h; cases h
      | true => exact ⟨hl, fun i hi => of_decide_eq_true (allN_get h1 i hi), rfl⟩
  · have := ckS_big (m := m) (v := v) (st := st) (d := d) (w := w) (f := f) (show 6 < len by omega)
    rw [h] at this; cases this
theorem ck0_sOk {m v st d w : Int} {len : Nat} {f : Nat → Nat → Int} {load : Int} (h : ckS m v st d w len f = 0) (h1 : 0 ≤ load) (h2 : load ≤ len) : sOk m v st d w len f load = true := by
  obtain ⟨q1, q2, q3⟩ := ck0 h
  refine cond_mk q3 (decide_eq_true ?_)
  have hs := of_decide_eq_true q3
  refine ⟨by omega, by omega, q1, h1, h2, ?_⟩
  by_cases e : load = 0
  · exact .inl e
  · exact .inr (q2 _ (by omega))
def X10 : Ext := conX [(22, cf val22), (62, cf val62)] false
theorem X10_ok : ExtOK Try.prog X10 := conX_ok (allCon_cons (con_ok con22) (allCon_cons (con_ok con62) allCon_nil))
end
end Go.Proofs.Ytmmokemjibdinaa
/- Stage 1: contracts: Floats, See, Mean. -/
namespace Go.Proofs.Ytmmokemjibdinaa
open Go Go.Ev
set_option maxRecDepth 1000000
noncomputable section
/-! Floats -/
theorem r18a (m v st d w : Int) (len : Nat) (f : Nat → Nat → Int) (load dens : Int) (h : ¬ ckS m v st d w len f = 0) : vc (runD0 Try.prog X10 300 18 (enc [spD m v st d w len f, .one (.i .i64 load), .one (.i .i64 dens)] 0) 1 (fun x => valP x (.tup [.int .i64 0, .int .i64 (ckS m v st d w len f)]))) (.go 21 .nil) := of_eq (q := ((cond (cond (cond (allI IntKind.i64 (cellsI IntKind.i64 f) len 1) true false) true false) true false) = true ∧ ((not (iEq (ckS m v st d w len f) (0))) = true ∧ ((((0) : Int) = (0)) ∧ ((((ckS m v st d w len f) : Int) = (ckS m v st d w len f)) ∧ True))))) (by kernel_rfl) (by (try simp only [iLe_t, iLe_f, iEq_t, iEq_f, small_t, small_f, cmin, cmax, not_t, not_f, boolEq_t, boolEq_f, ble_t, ble_f, blt_t, blt_f, beq_t, beq_f, iIn_t, iIn_f, allI_cells, cond_true, cond_false, true_and, and_true, eq_self]); (repeat' (first | exact True.intro | (with_reducible assumption) | refine And.intro ?_ ?_ | refine cond_mk ?_ ?_ | intro _)); all_goals (first | omega | (with_reducible assumption) | rfl | (simp only [iLe_t, iLe_f, iEq_t, iEq_f, small_t, small_f, cmin, cmax, not_t, not_f, boolEq_t, boolEq_f, ble_t, ble_f, blt_t, blt_f, beq_t, beq_f, iIn_t, iIn_f, allI_cells, cond_true, cond_false, true_and, and_true, eq_self]; first | done | omega | (with_reducible assumption) | rfl)))
theorem r18b (m v st d w : Int) (len : Nat) (f : Nat → Nat → Int) (load dens : Int) (h : ckS m v st d w len f = 0) (hr : ¬ (0 ≤ load ∧ load ≤ len ∧ 1 ≤ dens ∧ dens ≤ 2000)) : vc (runD0 Try.prog X10 300 18 (enc [spD m v st d w len f, .one (.i .i64 load), .one (.i .i64 dens)] 0) 1 (fun x => valP x (.tup [.int .i64 0, .int .i64 2]))) (.go 25 (.sp (.go 64 (.sp .nil (.go 4 (.sp (.go 5120 .nil) .nil)))) .nil)) := of_eq (q := ((cond (cond (cond (allI IntKind.i64 (cellsI IntKind.i64 f) len 1) true false) true false) true false) = true ∧ ((not (iEq (ckS m v st d w len f) (0))) = false ∧ (((iLe (0) load) = true → (((not (iLe load ((len : Nat) : Int))) = true → ((((0) : Int) = (0)) ∧ ((((2) : Int) = (2)) ∧ True))) ∧
  ((not (iLe load ((len : Nat) : Int))) = false → (((iLe (1) dens) = true → ((not (iLe dens (2000))) = true ∧ ((((0) : Int) = (0)) ∧ ((((2) : Int) = (2)) ∧ True)))) ∧
  ((iLe (1) dens) = false → ((((0) : Int) = (0)) ∧ ((((2) : Int) = (2)) ∧ True))))))) ∧
  ((iLe (0) load) = false → ((((0) : Int) = (0)) ∧ ((((2) : Int) = (2)) ∧ True))))))) (by kernel_rfl) (by (try simp only [iLe_t, iLe_f, iEq_t, iEq_f, small_t, small_f, cmin, cmax, not_t, not_f, boolEq_t, boolEq_f, ble_t, ble_f, blt_t, blt_f, beq_t, beq_f, iIn_t, iIn_f, allI_cells, cond_true, cond_false, true_and, and_true, eq_self]); (repeat' (first | exact True.intro | (with_reducible assumption) | refine And.intro ?_ ?_ | refine cond_mk ?_ ?_ | intro _)); all_goals (first | omega | (with_reducible assumption) | rfl | (simp only [iLe_t, iLe_f, iEq_t, iEq_f, small_t, small_f, cmin, cmax, not_t, not_f, boolEq_t, boolEq_f, ble_t, ble_f, blt_t, blt_f, beq_t, beq_f, iIn_t, iIn_f, allI_cells, cond_true, cond_false, true_and, and_true, eq_self]; first | done | omega | (with_reducible assumption) | rfl)))
theorem r18c (m v st d w : Int) (len : Nat) (f : Nat → Nat → Int) (load dens : Int) (h : ckS m v st d w len f = 0) (hr : 0 ≤ load ∧ load ≤ len ∧ 1 ≤ dens ∧ dens ≤ 2000) (ho : sOk m v st d w len f load = true) : vc (runD0 Try.prog X10 300 18 (enc [spD m v st d w len f, .one (.i .i64 load), .one (.i .i64 dens)] 0) 1 (fun x => valP x (.tup [.int .i64 (floR m v st d f load dens), .int .i64 0]))) (.go 5905653785 .nil) := of_eq (q := ((cond (cond (cond (allI IntKind.i64 (cellsI IntKind.i64 f) len 1) true false) true false) true false) = true ∧ ((not (iEq (ckS m v st d w len f) (0))) = false ∧ ((iLe (0) load) = true ∧ ((not (iLe load ((len : Nat) : Int))) = false ∧ ((iLe (1) dens) = true ∧ ((not (iLe dens (2000))) = false ∧ ((cond (cond (cond (allI IntKind.i64 (cellsI IntKind.i64 f) len 1) true false) true false) (sOk m v st d w len f load) false) = true ∧ ((((floR m v st d f load dens) : Int) = (floR m v st d f load dens)) ∧ ((((0) : Int) = (0)) ∧ True)))))))))) (by kernel_rfl) (by (try simp only [iLe_t, iLe_f, iEq_t, iEq_f, small_t, small_f, cmin, cmax, not_t, not_f, boolEq_t, boolEq_f, ble_t, ble_f, blt_t, blt_f, beq_t, beq_f, iIn_t, iIn_f, allI_cells, cond_true, cond_false, true_and, and_true, eq_self]); (repeat' (first | exact True.intro | (with_reducible assumption) | refine And.intro ?_ ?_ | refine cond_mk ?_ ?_ | intro _)); all_goals (first | omega | (with_reducible assumption) | rfl | (simp only [iLe_t, iLe_f, iEq_t, iEq_f, small_t, small_f, cmin, cmax, not_t, not_f, boolEq_t, boolEq_f, ble_t, ble_f, blt_t, blt_f, beq_t, beq_f, iIn_t, iIn_f, allI_cells, cond_true, cond_false, true_and, and_true, eq_self]; first | done | omega | (with_reducible assumption) | rfl)))
def eF (m v st d w : Int) (len : Nat) (f : Nat → Nat → Int) (load dens : Int) : Int := errF (ckS m v st d w len f) (inRg len load dens)
def nF (m v st d w : Int) (len : Nat) (f : Nat → Nat → Int) (load dens : Int) : Int := cond (iEq (eF m v st d w len f load dens) 0) (floR m v st d f load dens) 0
theorem eF_cases (m v st d w : Int) (len : Nat) (f : Nat → Nat → Int) (load dens : Int) : (¬ ckS m v st d w len f = 0 ∧ eF m v st d w len f load dens = ckS m v st d w len f ∧ nF m v st d w len f load dens = 0) ∨
    (ckS m v st d w len f = 0 ∧ ¬ (0 ≤ load ∧ load ≤ len ∧ 1 ≤ dens ∧ dens ≤ 2000) ∧ eF m v st d w len f load dens = 2 ∧ nF m v st d w len f load dens = 0) ∨
    (ckS m v st d w len f = 0 ∧ (0 ≤ load ∧ load ≤ len ∧ 1 ≤ dens ∧ dens ≤ 2000) ∧ eF m v st d w len f load dens = 0 ∧ nF m v st d w len f load dens = floR m v st d f load dens) := by
  by_cases h : ckS m v st d w len f = 0
  · by_cases hr : 0 ≤ load ∧ load ≤ len ∧ 1 ≤ dens ∧ dens ≤ 2000
    · have e : eF m v st d w len f load dens = 0 := by unfold eF; rw [errF_in h, inRg_t hr]; rfl
      exact .inr (.inr ⟨h, hr, e, by unfold nF; rw [e]; rfl⟩)
    · have q : inRg len load dens = false := by
        cases q : inRg len load dens with
        | false => rfl
        | true => exact absurd (inRg_get q) hr
      have e : eF m v st d w len f load dens = 2 := by unfold eF; rw [errF_in h, q]; rfl
      exact .inr (.inl ⟨h, hr, e, by unfold nF; rw [e]; rfl⟩)
  · have e : eF m v st d w len f load dens = ckS m v st d w len f := by unfold eF; rw [errF_ck h]
    exact .inl ⟨h, e, by unfold nF; rw [e, (iEq_f _ _).mpr h]; rfl⟩
def val18 : Val := fun das => match das with | [.st [.i .i64 m, .i .i64 v, .i .i64 st, .i .i64 d, .i .i64 w, .sl 1 len f], .one (.i .i64 load), .one (.i .i64 dens)] => some (true, .tup [.int .i64 (nF m v st d w len f load dens), .int .i64 (eF m v st d w len f load dens)]) | _ => none
theorem con18 : Con Try.prog 18 val18 := by
  intro das x hv
  unfold val18 at hv
  split at hv
  · rename_i m v st d w len f load dens
    have hv := congrArg Prod.snd (Option.some.inj hv)
    subst hv
    rcases eF_cases m v st d w len f load dens with ⟨h, e1, e2⟩ | ⟨h, hr, e1, e2⟩ | ⟨h, hr, e1, e2⟩
    · rw [e1, e2]; exact con_run drawnC X10_ok rfl (das := [spD m v st d w len f, .one (.i .i64 load), .one (.i .i64 dens)]) (r18a m v st d w len f load dens h)
    · rw [e1, e2]; exact con_run drawnC X10_ok rfl (das := [spD m v st d w len f, .one (.i .i64 load), .one (.i .i64 dens)]) (r18b m v st d w len f load dens h hr)
    · rw [e1, e2]; exact con_run drawnC X10_ok rfl (das := [spD m v st d w len f, .one (.i .i64 load), .one (.i .i64 dens)]) (r18c m v st d w len f load dens h hr (ck0_sOk h hr.1 hr.2.1))
  · cases hv
def X11 : Ext := conX [(18, cf val18), (63, cf val63), (22, cf val22), (68, cf val68)] false
theorem X11_ok : ExtOK Try.prog X11 := conX_ok (allCon_cons (con_ok con18) (allCon_cons (con_ok con63) (allCon_cons (con_ok con22) (allCon_cons (con_ok con68) allCon_nil))))
end
end Go.Proofs.Ytmmokemjibdinaa
/- Stage 1: contracts: See, Mean. -/
namespace Go.Proofs.Ytmmokemjibdinaa
open Go Go.Ev
set_option maxRecDepth 1000000
noncomputable section
theorem r20a (m v st d w : Int) (len : Nat) (f : Nat → Nat → Int) (load dens : Int) (h : ¬ eF m v st d w len f load dens = 0) : vc (runD0 Try.prog X11 300 20 (enc [spD m v st d w len f, .one (.i .i64 load), .one (.i .i64 dens)] 0) 1 (fun x => valP x (.tup [.agg 2 (T.setL .lf 0 [.int .i64 0, .int .i64 0]), .int .i64 (eF m v st d w len f load dens)]))) (.go 21 .nil) := of_eq (q := ((cond (cond (cond (allI IntKind.i64 (cellsI IntKind.i64 f) len 1) true false) true false) true false) = true ∧ ((not (iEq (eF m v st d w len f load dens) (0))) = true ∧ (((((0) : Int) = (0)) ∧ ((((0) : Int) = (0)) ∧ True)) ∧ ((((eF m v st d w len f load dens) : Int) = (eF m v st d w len f load dens)) ∧ True))))) (by kernel_rfl) (by (try simp only [iLe_t, iLe_f, iEq_t, iEq_f, small_t, small_f, cmin, cmax, not_t, not_f, boolEq_t, boolEq_f, ble_t, ble_f, blt_t, blt_f, beq_t, beq_f, iIn_t, iIn_f, allI_cells, cond_true, cond_false, true_and, and_true, eq_self]); (repeat' (first | exact True.intro | (with_reducible assumption) | refine And.intro ?_ ?_ | refine cond_mk ?_ ?_ | intro _)); all_goals (first | omega | (with_reducible assumption) | rfl | (simp only [iLe_t, iLe_f, iEq_t, iEq_f, small_t, small_f, cmin, cmax, not_t, not_f, boolEq_t, boolEq_f, ble_t, ble_f, blt_t, blt_f, beq_t, beq_f, iIn_t, iIn_f, allI_cells, cond_true, cond_false, true_and, and_true, eq_self]; first | done | omega | (with_reducible assumption) | rfl)))
theorem r20b (m v st d w : Int) (len : Nat) (f : Nat → Nat → Int) (load dens : Int) (h : eF m v st d w len f load dens = 0) (hn : ¬ nF m v st d w len f load dens = 0) : vc (runD0 Try.prog X11 300 20 (enc [spD m v st d w len f, .one (.i .i64 load), .one (.i .i64 dens)] 0) 1 (fun x => valP x (.tup [.agg 2 (T.setL .lf 0 [.int .i64 0, .int .i64 0]), .int .i64 10]))) (.go 89 .nil) := of_eq (q := ((cond (cond (cond (allI IntKind.i64 (cellsI IntKind.i64 f) len 1) true false) true false) true false) = true ∧ ((not (iEq (eF m v st d w len f load dens) (0))) = false ∧ ((not (iEq (nF m v st d w len f load dens) (0))) = true ∧ (((((0) : Int) = (0)) ∧ ((((0) : Int) = (0)) ∧ True)) ∧ ((((10) : Int) = (10)) ∧ True)))))) (by kernel_rfl) (by (try simp only [iLe_t, iLe_f, iEq_t, iEq_f, small_t, small_f, cmin, cmax, not_t, not_f, boolEq_t, boolEq_f, ble_t, ble_f, blt_t, blt_f, beq_t, beq_f, iIn_t, iIn_f, allI_cells, cond_true, cond_false, true_and, and_true, eq_self]); (repeat' (first | exact True.intro | (with_reducible assumption) | refine And.intro ?_ ?_ | refine cond_mk ?_ ?_ | intro _)); all_goals (first | omega | (with_reducible assumption) | rfl | (simp only [iLe_t, iLe_f, iEq_t, iEq_f, small_t, small_f, cmin, cmax, not_t, not_f, boolEq_t, boolEq_f, ble_t, ble_f, blt_t, blt_f, beq_t, beq_f, iIn_t, iIn_f, allI_cells, cond_true, cond_false, true_and, and_true, eq_self]; first | done | omega | (with_reducible assumption) | rfl)))
theorem r20c (m v st d w : Int) (len : Nat) (f : Nat → Nat → Int) (load dens : Int) (h : eF m v st d w len f load dens = 0) (hn : nF m v st d w len f load dens = 0) (ho : sOk m v st d w len f load = true) : vc (runD0 Try.prog X11 300 20 (enc [spD m v st d w len f, .one (.i .i64 load), .one (.i .i64 dens)] 0) 1 (fun x => valP x (.tup [.agg 2 (T.setL .lf 0 [.int .i64 (rdL (mI m f load) v st d w dens (readN d)), .int .i64 (rdH (mI m f load) v st d w dens (readN d))]), .int .i64 0]))) (.go 361 .nil) := of_eq (q := ((cond (cond (cond (allI IntKind.i64 (cellsI IntKind.i64 f) len 1) true false) true false) true false) = true ∧ ((not (iEq (eF m v st d w len f load dens) (0))) = false ∧ ((not (iEq (nF m v st d w len f load dens) (0))) = false ∧ ((cond (cond (cond (allI IntKind.i64 (cellsI IntKind.i64 f) len 1) true false) true false) (sOk m v st d w len f load) false) = true ∧ (((((rdL (mI m f load) v st d w dens ((d + 1).toNat)) : Int) = (rdL (mI m f load) v st d w dens ((d + 1).toNat))) ∧ ((((rdH (mI m f load) v st d w dens ((d + 1).toNat)) : Int) = (rdH (mI m f load) v st d w dens ((d + 1).toNat))) ∧ True)) ∧ ((((0) : Int) = (0)) ∧ True))))))) (by kernel_rfl) (by (try simp only [iLe_t, iLe_f, iEq_t, iEq_f, small_t, small_f, cmin, cmax, not_t, not_f, boolEq_t, boolEq_f, ble_t, ble_f, blt_t, blt_f, beq_t, beq_f, iIn_t, iIn_f, allI_cells, cond_true, cond_false, true_and, and_true, eq_self]); (repeat' (first | exact True.intro | (with_reducible assumption) | refine And.intro ?_ ?_ | refine cond_mk ?_ ?_ | intro _)); all_goals (first | omega | (with_reducible assumption) | rfl | (simp only [iLe_t, iLe_f, iEq_t, iEq_f, small_t, small_f, cmin, cmax, not_t, not_f, boolEq_t, boolEq_f, ble_t, ble_f, blt_t, blt_f, beq_t, beq_f, iIn_t, iIn_f, allI_cells, cond_true, cond_false, true_and, and_true, eq_self]; first | done | omega | (with_reducible assumption) | rfl)))
def eS (m v st d w : Int) (len : Nat) (f : Nat → Nat → Int) (load dens : Int) : Int := cond (iEq (eF m v st d w len f load dens) 0) (cond (iEq (nF m v st d w len f load dens) 0) 0 10) (eF m v st d w len f load dens)
def seeL (m v st d w : Int) (len : Nat) (f : Nat → Nat → Int) (load dens : Int) : Int := cond (iEq (eS m v st d w len f load dens) 0) (rdL (mI m f load) v st d w dens (readN d)) 0
def seeH (m v st d w : Int) (len : Nat) (f : Nat → Nat → Int) (load dens : Int) : Int := cond (iEq (eS m v st d w len f load dens) 0) (rdH (mI m f load) v st d w dens (readN d)) 0
theorem eS_cases (m v st d w : Int) (len : Nat) (f : Nat → Nat → Int) (load dens : Int) :
    (¬ eF m v st d w len f load dens = 0 ∧ eS m v st d w len f load dens = eF m v st d w len f load dens ∧ seeL m v st d w len f load dens = 0 ∧ seeH m v st d w len f load dens = 0) ∨
    (eF m v st d w len f load dens = 0 ∧ ¬ nF m v st d w len f load dens = 0 ∧ eS m v st d w len f load dens = 10 ∧ seeL m v st d w len f load dens = 0 ∧ seeH m v st d w len f load dens = 0) ∨
    (eF m v st d w len f load dens = 0 ∧ nF m v st d w len f load dens = 0 ∧ eS m v st d w len f load dens = 0 ∧ seeL m v st d w len f load dens = rdL (mI m f load) v st d w dens (readN d) ∧ seeH m v st d w len f load dens = rdH (mI m f load) v st d w dens (readN d)) := by
  by_cases h : eF m v st d w len f load dens = 0
  · by_cases hn : nF m v st d w len f load dens = 0
    · have e : eS m v st d w len f load dens = 0 := by unfold eS; rw [(iEq_t _ _).mpr h, (iEq_t _ _).mpr hn]; rfl
      exact .inr (.inr ⟨h, hn, e, by unfold seeL; rw [e]; rfl, by unfold seeH; rw [e]; rfl⟩)
    · have e : eS m v st d w len f load dens = 10 := by unfold eS; rw [(iEq_t _ _).mpr h, (iEq_f _ _).mpr hn]; rfl
      exact .inr (.inl ⟨h, hn, e, by unfold seeL; rw [e]; rfl, by unfold seeH; rw [e]; rfl⟩)
  · have e : eS m v st d w len f load dens = eF m v st d w len f load dens := by unfold eS; rw [(iEq_f _ _).mpr h]; rfl
    exact .inl ⟨h, e, by unfold seeL; rw [e, (iEq_f _ _).mpr h]; rfl, by unfold seeH; rw [e, (iEq_f _ _).mpr h]; rfl⟩
theorem eF0 {m v st d w : Int} {len : Nat} {f : Nat → Nat → Int} {load dens : Int} (h : eF m v st d w len f load dens = 0) : ckS m v st d w len f = 0 ∧ (0 ≤ load ∧ load ≤ len ∧ 1 ≤ dens ∧ dens ≤ 2000) := by
  rcases eF_cases m v st d w len f load dens with ⟨q, e1, e2⟩ | ⟨q, hr, e1, e2⟩ | ⟨q, hr, e1, e2⟩
  · rw [e1] at h; exact absurd h q
  · rw [e1] at h; cases h
  · exact ⟨q, hr⟩
def val20 : Val := fun das => match das with | [.st [.i .i64 m, .i .i64 v, .i .i64 st, .i .i64 d, .i .i64 w, .sl 1 len f], .one (.i .i64 load), .one (.i .i64 dens)] => some (true, .tup [.agg 2 (T.setL .lf 0 [.int .i64 (seeL m v st d w len f load dens), .int .i64 (seeH m v st d w len f load dens)]), .int .i64 (eS m v st d w len f load dens)]) | _ => none
theorem con20 : Con Try.prog 20 val20 := by
  intro das x hv
  unfold val20 at hv
  split at hv
  · rename_i m v st d w len f load dens
    have hv := congrArg Prod.snd (Option.some.inj hv)
    subst hv
    rcases eS_cases m v st d w len f load dens with ⟨h, e1, e2, e3⟩ | ⟨h, hn, e1, e2, e3⟩ | ⟨h, hn, e1, e2, e3⟩
    · rw [e1, e2, e3]; exact con_run drawnC X11_ok rfl (das := [spD m v st d w len f, .one (.i .i64 load), .one (.i .i64 dens)]) (r20a m v st d w len f load dens h)
    · rw [e1, e2, e3]; exact con_run drawnC X11_ok rfl (das := [spD m v st d w len f, .one (.i .i64 load), .one (.i .i64 dens)]) (r20b m v st d w len f load dens h hn)
    · obtain ⟨q1, q2⟩ := eF0 h
      rw [e1, e2, e3]; exact con_run drawnC X11_ok rfl (das := [spD m v st d w len f, .one (.i .i64 load), .one (.i .i64 dens)]) (r20c m v st d w len f load dens h hn (ck0_sOk q1 q2.1 q2.2.1))
  · cases hv
/-! Mean -/
theorem r27a (m v st d w : Int) (len : Nat) (f : Nat → Nat → Int) (load s : Int) (h : ¬ ckS m v st d w len f = 0) : vc (runD0 Try.prog X11 300 27 (enc [spD m v st d w len f, .one (.i .i64 load), .one (.i .i64 s)] 0) 1 (fun x => valP x (.tup [.agg 2 (T.setL .lf 0 [.int .i64 0, .int .i64 0]), .int .i64 (ckS m v st d w len f)]))) (.go 21 .nil) := of_eq (q := ((cond (cond (cond (allI IntKind.i64 (cellsI IntKind.i64 f) len 1) true false) true false) true false) = true ∧ ((not (iEq (ckS m v st d w len f) (0))) = true ∧ (((((0) : Int) = (0)) ∧ ((((0) : Int) = (0)) ∧ True)) ∧ ((((ckS m v st d w len f) : Int) = (ckS m v st d w len f)) ∧ True))))) (by kernel_rfl) (by (try simp only [iLe_t, iLe_f, iEq_t, iEq_f, small_t, small_f, cmin, cmax, not_t, not_f, boolEq_t, boolEq_f, ble_t, ble_f, blt_t, blt_f, beq_t, beq_f, iIn_t, iIn_f, allI_cells, cond_true, cond_false, true_and, and_true, eq_self]); (repeat' (first | exact True.intro | (with_reducible assumption) | refine And.intro ?_ ?_ | refine cond_mk ?_ ?_ | intro _)); all_goals (first | omega | (with_reducible assumption) | rfl | (simp only [iLe_t, iLe_f, iEq_t, iEq_f, small_t, small_f, cmin, cmax, not_t, not_f, boolEq_t, boolEq_f, ble_t, ble_f, blt_t, blt_f, beq_t, beq_f, iIn_t, iIn_f, allI_cells, cond_true, cond_false, true_and, and_true, eq_self]; first | done | omega | (with_reducible assumption) | rfl)))
theorem r27b (m v st d w : Int) (len : Nat) (f : Nat → Nat → Int) (load s : Int) (h : ckS m v st d w len f = 0) (hr : ¬ (0 ≤ load ∧ load ≤ len ∧ -2 ≤ s ∧ s ≤ d)) (hd : 1 ≤ d) : vc (runD0 Try.prog X11 300 27 (enc [spD m v st d w len f, .one (.i .i64 load), .one (.i .i64 s)] 0) 1 (fun x => valP x (.tup [.agg 2 (T.setL .lf 0 [.int .i64 0, .int .i64 0]), .int .i64 2]))) (.go 25 (.sp (.go 1048576 (.sp (.go 384 .nil) .nil)) (.go 64 (.sp (.go 4096 (.sp (.go 384 .nil) .nil)) (.go 1024 (.sp (.go 256 (.sp (.go 64 (.sp (.go 20 .nil) .nil)) .nil)) (.go 256 (.sp (.go 64 (.sp .nil .nil)) .nil)))))))) := of_eq (q := ((cond (cond (cond (allI IntKind.i64 (cellsI IntKind.i64 f) len 1) true false) true false) true false) = true ∧ ((not (iEq (ckS m v st d w len f) (0))) = false ∧ (((iEq s (-1)) = true → (((iLe (0) load) = true → ((iLe load ((len : Nat) : Int)) = false ∧ (((((0) : Int) = (0)) ∧ ((((0) : Int) = (0)) ∧ True)) ∧ ((((2) : Int) = (2)) ∧ True)))) ∧
  ((iLe (0) load) = false → (((((0) : Int) = (0)) ∧ ((((0) : Int) = (0)) ∧ True)) ∧ ((((2) : Int) = (2)) ∧ True))))) ∧
  ((iEq s (-1)) = false → (((iEq s (-2)) = true → (((iLe (0) load) = true → ((iLe load ((len : Nat) : Int)) = false ∧ (((((0) : Int) = (0)) ∧ ((((0) : Int) = (0)) ∧ True)) ∧ ((((2) : Int) = (2)) ∧ True)))) ∧
  ((iLe (0) load) = false → (((((0) : Int) = (0)) ∧ ((((0) : Int) = (0)) ∧ True)) ∧ ((((2) : Int) = (2)) ∧ True))))) ∧
  ((iEq s (-2)) = false → (((iLe (0) s) = true → (((iLe (0) load) = true → (((iLe load ((len : Nat) : Int)) = true → ((not (iLe s d)) = true ∧ (((((0) : Int) = (0)) ∧ ((((0) : Int) = (0)) ∧ True)) ∧ ((((2) : Int) = (2)) ∧ True)))) ∧
  ((iLe load ((len : Nat) : Int)) = false → (((((0) : Int) = (0)) ∧ ((((0) : Int) = (0)) ∧ True)) ∧ ((((2) : Int) = (2)) ∧ True))))) ∧
  ((iLe (0) load) = false → (((((0) : Int) = (0)) ∧ ((((0) : Int) = (0)) ∧ True)) ∧ ((((2) : Int) = (2)) ∧ True))))) ∧
  ((iLe (0) s) = false → (((iLe (0) load) = true → (((iLe load ((len : Nat) : Int)) = true → (((((0) : Int) = (0)) ∧ ((((0) : Int) = (0)) ∧ True)) ∧ ((((2) : Int) = (2)) ∧ True))) ∧
  ((iLe load ((len : Nat) : Int)) = false → (((((0) : Int) = (0)) ∧ ((((0) : Int) = (0)) ∧ True)) ∧ ((((2) : Int) = (2)) ∧ True))))) ∧
  ((iLe (0) load) = false → (((((0) : Int) = (0)) ∧ ((((0) : Int) = (0)) ∧ True)) ∧ ((((2) : Int) = (2)) ∧ True))))))))))))) (by kernel_rfl) (by (try simp only [iLe_t, iLe_f, iEq_t, iEq_f, small_t, small_f, cmin, cmax, not_t, not_f, boolEq_t, boolEq_f, ble_t, ble_f, blt_t, blt_f, beq_t, beq_f, iIn_t, iIn_f, allI_cells, cond_true, cond_false, true_and, and_true, eq_self]); (repeat' (first | exact True.intro | (with_reducible assumption) | refine And.intro ?_ ?_ | refine cond_mk ?_ ?_ | intro _)); all_goals (first | omega | (with_reducible assumption) | rfl | (simp only [iLe_t, iLe_f, iEq_t, iEq_f, small_t, small_f, cmin, cmax, not_t, not_f, boolEq_t, boolEq_f, ble_t, ble_f, blt_t, blt_f, beq_t, beq_f, iIn_t, iIn_f, allI_cells, cond_true, cond_false, true_and, and_true, eq_self]; first | done | omega | (with_reducible assumption) | rfl)))
theorem r27c (m v st d w : Int) (len : Nat) (f : Nat → Nat → Int) (load s : Int) (h : ckS m v st d w len f = 0) (hr : 0 ≤ load ∧ load ≤ len ∧ -2 ≤ s ∧ s ≤ d) (ho : sOk m v st d w len f load = true) (he : mnH (mI m f load) v st d w s < mnL (mI m f load) v st d w s) (hd : 1 ≤ d) : vc (runD0 Try.prog X11 300 27 (enc [spD m v st d w len f, .one (.i .i64 load), .one (.i .i64 s)] 0) 1 (fun x => valP x (.tup [.agg 2 (T.setL .lf 0 [.int .i64 0, .int .i64 0]), .int .i64 7]))) (.go 25 (.sp (.go 361046736896 .nil) (.go 64 (.sp (.go 1410338816 .nil) (.go 369636672512 .nil))))) := of_eq (q := ((cond (cond (cond (allI IntKind.i64 (cellsI IntKind.i64 f) len 1) true false) true false) true false) = true ∧ ((not (iEq (ckS m v st d w len f) (0))) = false ∧ (((iEq s (-1)) = true → ((iLe (0) load) = true ∧ ((iLe load ((len : Nat) : Int)) = true ∧ ((cond (cond (cond (allI IntKind.i64 (cellsI IntKind.i64 f) len 1) true false) true false) (cond (sOk m v st d w len f load) (cond (iLe (-2) s) (iLe s d) false) false) false) = true ∧ ((not (iLe (mnL (mI m f load) v st d w s) (mnH (mI m f load) v st d w s))) = true ∧ (((((0) : Int) = (0)) ∧ ((((0) : Int) = (0)) ∧ True)) ∧ ((((7) : Int) = (7)) ∧ True))))))) ∧
  ((iEq s (-1)) = false → (((iEq s (-2)) = true → ((iLe (0) load) = true ∧ ((iLe load ((len : Nat) : Int)) = true ∧ ((cond (cond (cond (allI IntKind.i64 (cellsI IntKind.i64 f) len 1) true false) true false) (cond (sOk m v st d w len f load) (cond (iLe (-2) s) (iLe s d) false) false) false) = true ∧ ((not (iLe (mnL (mI m f load) v st d w s) (mnH (mI m f load) v st d w s))) = true ∧ (((((0) : Int) = (0)) ∧ ((((0) : Int) = (0)) ∧ True)) ∧ ((((7) : Int) = (7)) ∧ True))))))) ∧
  ((iEq s (-2)) = false → ((iLe (0) s) = true ∧ ((iLe (0) load) = true ∧ ((iLe load ((len : Nat) : Int)) = true ∧ ((not (iLe s d)) = false ∧ ((cond (cond (cond (allI IntKind.i64 (cellsI IntKind.i64 f) len 1) true false) true false) (cond (sOk m v st d w len f load) (cond (iLe (-2) s) (iLe s d) false) false) false) = true ∧ ((not (iLe (mnL (mI m f load) v st d w s) (mnH (mI m f load) v st d w s))) = true ∧ (((((0) : Int) = (0)) ∧ ((((0) : Int) = (0)) ∧ True)) ∧ ((((7) : Int) = (7)) ∧ True))))))))))))))) (by kernel_rfl) (by (try simp only [iLe_t, iLe_f, iEq_t, iEq_f, small_t, small_f, cmin, cmax, not_t, not_f, boolEq_t, boolEq_f, ble_t, ble_f, blt_t, blt_f, beq_t, beq_f, iIn_t, iIn_f, allI_cells, cond_true, cond_false, true_and, and_true, eq_self]); (repeat' (first | exact True.intro | (with_reducible assumption) | refine And.intro ?_ ?_ | refine cond_mk ?_ ?_ | intro _)); all_goals (first | omega | (with_reducible assumption) | rfl | (simp only [iLe_t, iLe_f, iEq_t, iEq_f, small_t, small_f, cmin, cmax, not_t, not_f, boolEq_t, boolEq_f, ble_t, ble_f, blt_t, blt_f, beq_t, beq_f, iIn_t, iIn_f, allI_cells, cond_true, cond_false, true_and, and_true, eq_self]; first | done | omega | (with_reducible assumption) | rfl)))
theorem r27d (m v st d w : Int) (len : Nat) (f : Nat → Nat → Int) (load s : Int) (h : ckS m v st d w len f = 0) (hr : 0 ≤ load ∧ load ≤ len ∧ -2 ≤ s ∧ s ≤ d) (ho : sOk m v st d w len f load = true) (he : mnL (mI m f load) v st d w s ≤ mnH (mI m f load) v st d w s) (hd : 1 ≤ d) : vc (runD0 Try.prog X11 300 27 (enc [spD m v st d w len f, .one (.i .i64 load), .one (.i .i64 s)] 0) 1 (fun x => valP x (.tup [.agg 2 (T.setL .lf 0 [.int .i64 (mnL (mI m f load) v st d w s), .int .i64 (mnH (mI m f load) v st d w s)]), .int .i64 0]))) (.go 25 (.sp (.go 429766213632 .nil) (.go 64 (.sp (.go 1678774272 .nil) (.go 438356149248 .nil))))) := of_eq (q := ((cond (cond (cond (allI IntKind.i64 (cellsI IntKind.i64 f) len 1) true false) true false) true false) = true ∧ ((not (iEq (ckS m v st d w len f) (0))) = false ∧ (((iEq s (-1)) = true → ((iLe (0) load) = true ∧ ((iLe load ((len : Nat) : Int)) = true ∧ ((cond (cond (cond (allI IntKind.i64 (cellsI IntKind.i64 f) len 1) true false) true false) (cond (sOk m v st d w len f load) (cond (iLe (-2) s) (iLe s d) false) false) false) = true ∧ ((not (iLe (mnL (mI m f load) v st d w s) (mnH (mI m f load) v st d w s))) = false ∧ (((((mnL (mI m f load) v st d w s) : Int) = (mnL (mI m f load) v st d w s)) ∧ ((((mnH (mI m f load) v st d w s) : Int) = (mnH (mI m f load) v st d w s)) ∧ True)) ∧ ((((0) : Int) = (0)) ∧ True))))))) ∧
  ((iEq s (-1)) = false → (((iEq s (-2)) = true → ((iLe (0) load) = true ∧ ((iLe load ((len : Nat) : Int)) = true ∧ ((cond (cond (cond (allI IntKind.i64 (cellsI IntKind.i64 f) len 1) true false) true false) (cond (sOk m v st d w len f load) (cond (iLe (-2) s) (iLe s d) false) false) false) = true ∧ ((not (iLe (mnL (mI m f load) v st d w s) (mnH (mI m f load) v st d w s))) = false ∧ (((((mnL (mI m f load) v st d w s) : Int) = (mnL (mI m f load) v st d w s)) ∧ ((((mnH (mI m f load) v st d w s) : Int) = (mnH (mI m f load) v st d w s)) ∧ True)) ∧ ((((0) : Int) = (0)) ∧ True))))))) ∧
  ((iEq s (-2)) = false → ((iLe (0) s) = true ∧ ((iLe (0) load) = true ∧ ((iLe load ((len : Nat) : Int)) = true ∧ ((not (iLe s d)) = false ∧ ((cond (cond (cond (allI IntKind.i64 (cellsI IntKind.i64 f) len 1) true false) true false) (cond (sOk m v st d w len f load) (cond (iLe (-2) s) (iLe s d) false) false) false) = true ∧ ((not (iLe (mnL (mI m f load) v st d w s) (mnH (mI m f load) v st d w s))) = false ∧ (((((mnL (mI m f load) v st d w s) : Int) = (mnL (mI m f load) v st d w s)) ∧ ((((mnH (mI m f load) v st d w s) : Int) = (mnH (mI m f load) v st d w s)) ∧ True)) ∧ ((((0) : Int) = (0)) ∧ True))))))))))))))) (by kernel_rfl) (by (try simp only [iLe_t, iLe_f, iEq_t, iEq_f, small_t, small_f, cmin, cmax, not_t, not_f, boolEq_t, boolEq_f, ble_t, ble_f, blt_t, blt_f, beq_t, beq_f, iIn_t, iIn_f, allI_cells, cond_true, cond_false, true_and, and_true, eq_self]); (repeat' (first | exact True.intro | (with_reducible assumption) | refine And.intro ?_ ?_ | refine cond_mk ?_ ?_ | intro _)); all_goals (first | omega | (with_reducible assumption) | rfl | (simp only [iLe_t, iLe_f, iEq_t, iEq_f, small_t, small_f, cmin, cmax, not_t, not_f, boolEq_t, boolEq_f, ble_t, ble_f, blt_t, blt_f, beq_t, beq_f, iIn_t, iIn_f, allI_cells, cond_true, cond_false, true_and, and_true, eq_self]; first | done | omega | (with_reducible assumption) | rfl)))
def inM (len : Nat) (d load s : Int) : Bool := cond (iLe 0 load) (cond (iLe load len) (cond (iLe (-2) s) (iLe s d) false) false) false
def eM (m v st d w : Int) (len : Nat) (f : Nat → Nat → Int) (load s : Int) : Int := cond (iEq (ckS m v st d w len f) 0) (cond (inM len d load s) (cond (iLe (mnL (mI m f load) v st d w s) (mnH (mI m f load) v st d w s)) 0 7) 2) (ckS m v st d w len f)
def meaL (m v st d w : Int) (len : Nat) (f : Nat → Nat → Int) (load s : Int) : Int := cond (iEq (eM m v st d w len f load s) 0) (mnL (mI m f load) v st d w s) 0
def meaH (m v st d w : Int) (len : Nat) (f : Nat → Nat → Int) (load s : Int) : Int := cond (iEq (eM m v st d w len f load s) 0) (mnH (mI m f load) v st d w s) 0
theorem inM_t {len : Nat} {d load s : Int} (h : 0 ≤ load ∧ load ≤ len ∧ -2 ≤ s ∧ s ≤ d) : inM len d load s = true := cond_mk ((iLe_t _ _).mpr h.1) (cond_mk ((iLe_t _ _).mpr h.2.1) (cond_mk ((iLe_t _ _).mpr h.2.2.1) ((iLe_t _ _).mpr h.2.2.2)))
theorem inM_get {len : Nat} {d load s : Int} (h : inM len d load s = true) : 0 ≤ load ∧ load ≤ len ∧ -2 ≤ s ∧ s ≤ d := by
  obtain ⟨h1, h⟩ := cond_tt h
  obtain ⟨h2, h⟩ := cond_tt h
  obtain ⟨h3, h4⟩ := cond_tt h
  rw [iLe_t] at h1 h2 h3 h4
  exact ⟨h1, h2, h3, h4⟩
theorem eM_cases (m v st d w : Int) (len : Nat) (f : Nat → Nat → Int) (load s : Int) :
    (¬ ckS m v st d w len f = 0 ∧ eM m v st d w len f load s = ckS m v st d w len f ∧ meaL m v st d w len f load s = 0 ∧ meaH m v st d w len f load s = 0) ∨
    (ckS m v st d w len f = 0 ∧ ¬ (0 ≤ load ∧ load ≤ len ∧ -2 ≤ s ∧ s ≤ d) ∧ eM m v st d w len f load s = 2 ∧ meaL m v st d w len f load s = 0 ∧ meaH m v st d w len f load s = 0) ∨
    (ckS m v st d w len f = 0 ∧ (0 ≤ load ∧ load ≤ len ∧ -2 ≤ s ∧ s ≤ d) ∧ mnH (mI m f load) v st d w s < mnL (mI m f load) v st d w s ∧ eM m v st d w len f load s = 7 ∧ meaL m v st d w len f load s = 0 ∧ meaH m v st d w len f load s = 0) ∨
    (ckS m v st d w len f = 0 ∧ (0 ≤ load ∧ load ≤ len ∧ -2 ≤ s ∧ s ≤ d) ∧ mnL (mI m f load) v st d w s ≤ mnH (mI m f load) v st d w s ∧ eM m v st d w len f load s = 0 ∧ meaL m v st d w len f load s = mnL (mI m f load) v st d w s ∧ meaH m v st d w len f load s = mnH (mI m f load) v st d w s) := by
  by_cases h : ckS m v st d w len f = 0
  · by_cases hr : 0 ≤ load ∧ load ≤ len ∧ -2 ≤ s ∧ s ≤ d
    · by_cases he : mnL (mI m f load) v st d w s ≤ mnH (mI m f load) v st d w s
      · have e : eM m v st d w len f load s = 0 := by unfold eM; rw [(iEq_t _ _).mpr h, inM_t hr, (iLe_t _ _).mpr he]; rfl
        exact .inr (.inr (.inr ⟨h, hr, he, e, by unfold meaL; rw [e]; rfl, by unfold meaH; rw [e]; rfl⟩))
      · have e : eM m v st d w len f load s = 7 := by unfold eM; rw [(iEq_t _ _).mpr h, inM_t hr, (iLe_f _ _).mpr (by omega)]; rfl
        exact .inr (.inr (.inl ⟨h, hr, by omega, e, by unfold meaL; rw [e]; rfl, by unfold meaH; rw [e]; rfl⟩))
    · have q : inM len d load s = false := by
        cases q : inM len d load s with
        | false => rfl
        | true => exact absurd (inM_get q) hr
      have e : eM m v st d w len f load s = 2 := by unfold eM; rw [(iEq_t _ _).mpr h, q]; rfl
      exact .inr (.inl ⟨h, hr, e, by unfold meaL; rw [e]; rfl, by unfold meaH; rw [e]; rfl⟩)
  · have e : eM m v st d w len f load s = ckS m v st d w len f := by unfold eM; rw [(iEq_f _ _).mpr h]; rfl
    exact .inl ⟨h, e, by unfold meaL; rw [e, (iEq_f _ _).mpr h]; rfl, by unfold meaH; rw [e, (iEq_f _ _).mpr h]; rfl⟩
def val27 : Val := fun das => match das with | [.st [.i .i64 m, .i .i64 v, .i .i64 st, .i .i64 d, .i .i64 w, .sl 1 len f], .one (.i .i64 load), .one (.i .i64 s)] => some (true, .tup [.agg 2 (T.setL .lf 0 [.int .i64 (meaL m v st d w len f load s), .int .i64 (meaH m v st d w len f load s)]), .int .i64 (eM m v st d w len f load s)]) | _ => none
theorem con27 : Con Try.prog 27 val27 := by
  intro das x hv
  unfold val27 at hv
  split at hv
  · rename_i m v st d w len f load s
    have hv := congrArg Prod.snd (Option.some.inj hv)
    subst hv
    have hd : ckS m v st d w len f = 0 → 1 ≤ d := fun q => (of_decide_eq_true (ck0 q).2.2).2.2.2.2.2.2.1
    rcases eM_cases m v st d w len f load s with ⟨h, e1, e2, e3⟩ | ⟨h, hr, e1, e2, e3⟩ | ⟨h, hr, he, e1, e2, e3⟩ | ⟨h, hr, he, e1, e2, e3⟩
    · rw [e1, e2, e3]; exact con_run drawnC X11_ok rfl (das := [spD m v st d w len f, .one (.i .i64 load), .one (.i .i64 s)]) (r27a m v st d w len f load s h)
    · rw [e1, e2, e3]; exact con_run drawnC X11_ok rfl (das := [spD m v st d w len f, .one (.i .i64 load), .one (.i .i64 s)]) (r27b m v st d w len f load s h hr (hd h))
    · rw [e1, e2, e3]; exact con_run drawnC X11_ok rfl (das := [spD m v st d w len f, .one (.i .i64 load), .one (.i .i64 s)]) (r27c m v st d w len f load s h hr (ck0_sOk h hr.1 hr.2.1) he (hd h))
    · rw [e1, e2, e3]; exact con_run drawnC X11_ok rfl (das := [spD m v st d w len f, .one (.i .i64 load), .one (.i .i64 s)]) (r27d m v st d w len f load s h hr (ck0_sOk h hr.1 hr.2.1) he (hd h))
  · cases hv
end
end Go.Proofs.Ytmmokemjibdinaa
