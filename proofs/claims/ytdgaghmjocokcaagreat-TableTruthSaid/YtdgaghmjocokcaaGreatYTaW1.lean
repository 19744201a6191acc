/- Tables: contracts: the law's ranges by words, and whether a number is in a list. -/
import Derived.Test.YtdgaghmjocokcaaGreatYTaK4
set_option linter.all false
set_option linter.unusedSimpArgs false
set_option linter.unusedVariables false
namespace Go.Proofs.YtdgaghmjocokcaaGreat
open Go Go.Ev
set_option maxRecDepth 1000000
noncomputable section
noncomputable def pkI (len : Nat) (g : Nat → Nat → Int) (a : Int) : Int := g 0 0 + Int.tmod a (g (len - 1) 0 - g 0 0 + 1)
noncomputable def twL (len : Nat) (g : Nat → Nat → Int) (a b : Int) : Int := min (pkI len g a) (pkI len g b)
noncomputable def twH (len : Nat) (g : Nat → Nat → Int) (a b : Int) : Int := max (pkI len g a) (pkI len g b)
noncomputable def lnB (len : Nat) (g : Nat → Nat → Int) : Bool := cond (Nat.ble 1 len) (cond (leB 0 (g 0 0) (g (len - 1) 0)) (iLe (g (len - 1) 0) 1000) false) false
theorem tw (len : Nat) (g : Nat → Nat → Int) (a b : Int) (h1 : 1 ≤ len) (h2 : 0 ≤ (g 0 0) ∧ (g 0 0) ≤ (g (Int.toNat ((len : Int) - 1)) 0) ∧ (g (Int.toNat ((len : Int) - 1)) 0) ≤ 1000) (ha : 0 ≤ a ∧ a ≤ 255) (hb : 0 ≤ b ∧ b ≤ 255) (q1 : 0 ≤ (Int.tmod a ((g (Int.toNat ((len : Int) - 1)) 0) - (g 0 0) + 1)) ∧ (Int.tmod a ((g (Int.toNat ((len : Int) - 1)) 0) - (g 0 0) + 1)) ≤ (g (Int.toNat ((len : Int) - 1)) 0) - (g 0 0)) (q2 : 0 ≤ (Int.tmod b ((g (Int.toNat ((len : Int) - 1)) 0) - (g 0 0) + 1)) ∧ (Int.tmod b ((g (Int.toNat ((len : Int) - 1)) 0) - (g 0 0) + 1)) ≤ (g (Int.toNat ((len : Int) - 1)) 0) - (g 0 0)) (hl : len ≤ 1000) : VC (runD0 Tryz.prog noExt 300 52 (enc [.one (.sl 1 len g), .one (.i .u8 a), .one (.i .u8 b)] 0) 1 (fun v => valP v (.agg 2 (T.setL .lf 0 [.int .i64 (min ((g 0 0) + (Int.tmod a ((g (Int.toNat ((len : Int) - 1)) 0) - (g 0 0) + 1))) ((g 0 0) + (Int.tmod b ((g (Int.toNat ((len : Int) - 1)) 0) - (g 0 0) + 1)))), .int .i64 (max ((g 0 0) + (Int.tmod a ((g (Int.toNat ((len : Int) - 1)) 0) - (g 0 0) + 1))) ((g 0 0) + (Int.tmod b ((g (Int.toNat ((len : Int) - 1)) 0) - (g 0 0) + 1))))])))) (.go 95920952661 .nil) := ⟨by
  rw [show vc (runD0 Tryz.prog noExt 300 52 (enc [.one (.sl 1 len g), .one (.i .u8 a), .one (.i .u8 b)] 0) 1 (fun v => valP v (.agg 2 (T.setL .lf 0 [.int .i64 (min ((g 0 0) + (Int.tmod a ((g (Int.toNat ((len : Int) - 1)) 0) - (g 0 0) + 1))) ((g 0 0) + (Int.tmod b ((g (Int.toNat ((len : Int) - 1)) 0) - (g 0 0) + 1)))), .int .i64 (max ((g 0 0) + (Int.tmod a ((g (Int.toNat ((len : Int) - 1)) 0) - (g 0 0) + 1))) ((g 0 0) + (Int.tmod b ((g (Int.toNat ((len : Int) - 1)) 0) - (g 0 0) + 1))))])))) (.go 95920952661 .nil) = (((Nat.blt 0 len) = true ∧ ((small a) = true ∧ ((small (((len : Nat) : Int) - (1))) = true ∧ ((iIn (((len : Nat) : Int) - (1)) len) = true ∧ ((Nat.blt 0 len) = true ∧ ((small ((g (Int.toNat (((len : Nat) : Int) - (1))) 0) - (g 0 0))) = true ∧ ((small (((g (Int.toNat (((len : Nat) : Int) - (1))) 0) - (g 0 0)) + (1))) = true ∧ ((iEq (((g (Int.toNat (((len : Nat) : Int) - (1))) 0) - (g 0 0)) + (1)) (0)) = false ∧ ((small ((g 0 0) + (Int.tmod a (((g (Int.toNat (((len : Nat) : Int) - (1))) 0) - (g 0 0)) + (1))))) = true ∧ ((Nat.blt 0 len) = true ∧ ((small b) = true ∧ ((small (((len : Nat) : Int) - (1))) = true ∧ ((iIn (((len : Nat) : Int) - (1)) len) = true ∧ ((Nat.blt 0 len) = true ∧ ((small ((g (Int.toNat (((len : Nat) : Int) - (1))) 0) - (g 0 0))) = true ∧ ((small (((g (Int.toNat (((len : Nat) : Int) - (1))) 0) - (g 0 0)) + (1))) = true ∧ ((iEq (((g (Int.toNat (((len : Nat) : Int) - (1))) 0) - (g 0 0)) + (1)) (0)) = false ∧ ((small ((g 0 0) + (Int.tmod b (((g (Int.toNat (((len : Nat) : Int) - (1))) 0) - (g 0 0)) + (1))))) = true ∧ ((((cond (iLe ((g 0 0) + (Int.tmod a (((g (Int.toNat (((len : Nat) : Int) - (1))) 0) - (g 0 0)) + (1)))) ((g 0 0) + (Int.tmod b (((g (Int.toNat (((len : Nat) : Int) - (1))) 0) - (g 0 0)) + (1))))) ((g 0 0) + (Int.tmod a (((g (Int.toNat (((len : Nat) : Int) - (1))) 0) - (g 0 0)) + (1)))) ((g 0 0) + (Int.tmod b (((g (Int.toNat (((len : Nat) : Int) - (1))) 0) - (g 0 0)) + (1))))) : Int) = (min ((g 0 0) + (Int.tmod a (((g (Int.toNat (((len : Nat) : Int) - (1))) 0) - (g 0 0)) + (1)))) ((g 0 0) + (Int.tmod b (((g (Int.toNat (((len : Nat) : Int) - (1))) 0) - (g 0 0)) + (1)))))) ∧ ((((cond (iLe ((g 0 0) + (Int.tmod b (((g (Int.toNat (((len : Nat) : Int) - (1))) 0) - (g 0 0)) + (1)))) ((g 0 0) + (Int.tmod a (((g (Int.toNat (((len : Nat) : Int) - (1))) 0) - (g 0 0)) + (1))))) ((g 0 0) + (Int.tmod a (((g (Int.toNat (((len : Nat) : Int) - (1))) 0) - (g 0 0)) + (1)))) ((g 0 0) + (Int.tmod b (((g (Int.toNat (((len : Nat) : Int) - (1))) 0) - (g 0 0)) + (1))))) : Int) = (max ((g 0 0) + (Int.tmod a (((g (Int.toNat (((len : Nat) : Int) - (1))) 0) - (g 0 0)) + (1)))) ((g 0 0) + (Int.tmod b (((g (Int.toNat (((len : Nat) : Int) - (1))) 0) - (g 0 0)) + (1)))))) ∧ True))))))))))))))))))))) by kernel_rfl]
  (try simp only [iLe_t, iLe_f, iEq_t, iEq_f, small_t, small_f, cmin, cmax, not_t, not_f, boolEq_t, boolEq_f, ble_t, ble_f, blt_t, blt_f, beq_t, beq_f, iIn_t, iIn_f, allI_cells, allR_rows, cond_true, cond_false, true_and, and_true, eq_self]); (repeat' (first | exact True.intro | (with_reducible assumption) | refine And.intro ?_ ?_ | refine cond_mk ?_ ?_ | intro _)); all_goals (first | (with_reducible assumption) | (with_reducible rfl) | omega | rfl | (simp only [iLe_t, iLe_f, iEq_t, iEq_f, small_t, small_f, cmin, cmax, not_t, not_f, boolEq_t, boolEq_f, ble_t, ble_f, blt_t, blt_f, beq_t, beq_f, iIn_t, iIn_f, allI_cells, allR_rows, cond_true, cond_false, true_and, and_true, eq_self]; first | done | omega | (with_reducible assumption) | rfl))⟩
noncomputable def valTo : Val := fun das => match das with | [.one (.sl 1 len g), .one (.i .u8 a), .one (.i .u8 b)] => some (cond (cond (Nat.ble len 1000) (lnB len g) false) (cond (leB 0 a 255) (leB 0 b 255) false) false, .agg 2 (T.setL .lf 0 [.int .i64 (twL len g a b), .int .i64 (twH len g a b)])) | _ => none
theorem tmod_bd' {a b : Int} (ha : 0 ≤ a) (hb : 0 ≤ b) : 0 ≤ Int.tmod a (b + 1) ∧ Int.tmod a (b + 1) ≤ b := by
  have := tmod_bd (a := a) (b := b + 1) ha (by omega)
  omega
theorem lnB_get {len : Nat} {g : Nat → Nat → Int} (h : lnB len g = true) : 1 ≤ len ∧ 0 ≤ g 0 0 ∧ g 0 0 ≤ g (len - 1) 0 ∧ g (len - 1) 0 ≤ 1000 := by
  obtain ⟨h1, h⟩ := cond_tt h
  obtain ⟨h2, h3⟩ := cond_tt h
  have := leB_t h2
  rw [iLe_t] at h3
  exact ⟨Nat.le_of_ble_eq_true h1, this.1, this.2, h3⟩
theorem conTo : Con Tryz.prog 52 valTo := by
  intro das v hv
  unfold valTo at hv
  split at hv
  · rename_i len g a b
    have hb := congrArg Prod.fst (Option.some.inj hv)
    have hv := congrArg Prod.snd (Option.some.inj hv)
    subst hv
    obtain ⟨h0, hb⟩ := cond_tt hb
    obtain ⟨h0', h0⟩ := cond_tt h0
    obtain ⟨h1, h2⟩ := cond_tt hb
    have h1 := leB_t h1
    have h2 := leB_t h2
    obtain ⟨g1, g2, g3, g4⟩ := lnB_get h0
    have e : Int.toNat ((len : Int) - 1) = len - 1 := by omega
    have q1 := tmod_bd' (a := a) (b := g (len - 1) 0 - g 0 0) h1.1 (by omega)
    have q2 := tmod_bd' (a := b) (b := g (len - 1) 0 - g 0 0) h2.1 (by omega)
    have := con_runV drawnC noExt_ok rfl (das := [.one (.sl 1 len g), .one (.i .u8 a), .one (.i .u8 b)]) (tw len g a b g1 (by rw [e]; exact ⟨g2, g3, g4⟩) h1 h2 (by rw [e]; exact q1) (by rw [e]; exact q2) (Nat.le_of_ble_eq_true h0'))
    rw [e] at this
    exact this
  · cases hv
noncomputable def ltY : LT := ⟨[0,1,5],[],[4],2⟩
noncomputable def sY (len : Nat) (g : Nat → Nat → Int) (x : Int) (k : Nat) : LS := ⟨[.fz true 0 (cellsI .i64 g) len 1, .int .i64 x, .int .i64 k], []⟩
noncomputable def dasY (len : Nat) (g : Nat → Nat → Int) (x : Int) : List DA := [.one (.sl 1 len g), .one (.i .i64 x)]
noncomputable def bY : Code := sub [1,0,1,0,0] (bodyOf Tryz.prog 53)
theorem eY (len : Nat) (g : Nat → Nat → Int) (x : Int) : VC (entD Tryz.prog noExt 300 53 [1,0,1,0] (dasY len g x) (heap0 2) ltY 18 60 (sY len g x 0)) .nil := ⟨by
  rw [show vc (entD Tryz.prog noExt 300 53 [1,0,1,0] (dasY len g x) (heap0 2) ltY 18 60 (sY len g x 0)) .nil = ((True ∧ (((((V.fz true 0 (cellsI .i64 g) len 1) : V) = (V.fz true 0 (cellsI .i64 g) len 1)) ∧ (((x : Int) = x) ∧ ((((0) : Int) = ((0 : Nat) : Int)) ∧ True))) ∧ True))) by kernel_rfl]
  (try simp only [iLe_t, iLe_f, iEq_t, iEq_f, small_t, small_f, cmin, cmax, not_t, not_f, boolEq_t, boolEq_f, ble_t, ble_f, blt_t, blt_f, beq_t, beq_f, iIn_t, iIn_f, allI_cells, allR_rows, cond_true, cond_false, true_and, and_true, eq_self]); (repeat' (first | exact True.intro | (with_reducible assumption) | refine And.intro ?_ ?_ | refine cond_mk ?_ ?_ | intro _)); all_goals (first | (with_reducible assumption) | (with_reducible rfl) | omega | rfl | (simp only [iLe_t, iLe_f, iEq_t, iEq_f, small_t, small_f, cmin, cmax, not_t, not_f, boolEq_t, boolEq_f, ble_t, ble_f, blt_t, blt_f, beq_t, beq_f, iIn_t, iIn_f, allI_cells, allR_rows, cond_true, cond_false, true_and, and_true, eq_self]; first | done | omega | (with_reducible assumption) | rfl))⟩
theorem rY1 (len : Nat) (g : Nat → Nat → Int) (x : Int) (k : Nat) (h1 : k < len) (h2 : len ≤ 1000) (h3 : ¬ g k 0 = x) : VC (roundD Tryz.prog noExt 300 bY (heap0 2) ltY 18 60 (sY len g x k) (.next (sY len g x (k + 1)))) (.go 357 .nil) := ⟨by
  rw [show vc (roundD Tryz.prog noExt 300 bY (heap0 2) ltY 18 60 (sY len g x k) (.next (sY len g x (k + 1)))) (.go 357 .nil) = (((not (iLe ((len : Nat) : Int) ((k : Nat) : Int))) = true ∧ ((Nat.blt k len) = true ∧ ((iEq (g k 0) x) = false ∧ ((small (((k : Nat) : Int) + (1))) = true ∧ (((((V.fz true 0 (cellsI .i64 g) len 1) : V) = (V.fz true 0 (cellsI .i64 g) len 1)) ∧ (((x : Int) = x) ∧ ((((((k : Nat) : Int) + (1)) : Int) = (((k + 1) : Nat) : Int)) ∧ True))) ∧ True)))))) by kernel_rfl]
  (try simp only [iLe_t, iLe_f, iEq_t, iEq_f, small_t, small_f, cmin, cmax, not_t, not_f, boolEq_t, boolEq_f, ble_t, ble_f, blt_t, blt_f, beq_t, beq_f, iIn_t, iIn_f, allI_cells, allR_rows, cond_true, cond_false, true_and, and_true, eq_self]); (repeat' (first | exact True.intro | (with_reducible assumption) | refine And.intro ?_ ?_ | refine cond_mk ?_ ?_ | intro _)); all_goals (first | (with_reducible assumption) | (with_reducible rfl) | omega | rfl | (simp only [iLe_t, iLe_f, iEq_t, iEq_f, small_t, small_f, cmin, cmax, not_t, not_f, boolEq_t, boolEq_f, ble_t, ble_f, blt_t, blt_f, beq_t, beq_f, iIn_t, iIn_f, allI_cells, allR_rows, cond_true, cond_false, true_and, and_true, eq_self]; first | done | omega | (with_reducible assumption) | rfl))⟩
theorem rY2 (len : Nat) (g : Nat → Nat → Int) (x : Int) (k : Nat) (h1 : k < len) (h2 : len ≤ 1000) (h3 : g k 0 = x) : VC (roundD Tryz.prog noExt 300 bY (heap0 2) ltY 18 60 (sY len g x k) (.ret ⟨[.bool true], []⟩)) (.go 85 .nil) := ⟨by
  rw [show vc (roundD Tryz.prog noExt 300 bY (heap0 2) ltY 18 60 (sY len g x k) (.ret ⟨[.bool true], []⟩)) (.go 85 .nil) = (((not (iLe ((len : Nat) : Int) ((k : Nat) : Int))) = true ∧ ((Nat.blt k len) = true ∧ ((iEq (g k 0) x) = true ∧ (((true = true) ∧ True) ∧ True))))) by kernel_rfl]
  (try simp only [iLe_t, iLe_f, iEq_t, iEq_f, small_t, small_f, cmin, cmax, not_t, not_f, boolEq_t, boolEq_f, ble_t, ble_f, blt_t, blt_f, beq_t, beq_f, iIn_t, iIn_f, allI_cells, allR_rows, cond_true, cond_false, true_and, and_true, eq_self]); (repeat' (first | exact True.intro | (with_reducible assumption) | refine And.intro ?_ ?_ | refine cond_mk ?_ ?_ | intro _)); all_goals (first | (with_reducible assumption) | (with_reducible rfl) | omega | rfl | (simp only [iLe_t, iLe_f, iEq_t, iEq_f, small_t, small_f, cmin, cmax, not_t, not_f, boolEq_t, boolEq_f, ble_t, ble_f, blt_t, blt_f, beq_t, beq_f, iIn_t, iIn_f, allI_cells, allR_rows, cond_true, cond_false, true_and, and_true, eq_self]; first | done | omega | (with_reducible assumption) | rfl))⟩
theorem rY3 (len : Nat) (g : Nat → Nat → Int) (x : Int) (k : Nat) (h1 : ¬ k < len) : VC (roundD Tryz.prog noExt 300 bY (heap0 2) ltY 18 60 (sY len g x k) (.exit 0 ⟨[], []⟩)) (.go 6 .nil) := ⟨by
  rw [show vc (roundD Tryz.prog noExt 300 bY (heap0 2) ltY 18 60 (sY len g x k) (.exit 0 ⟨[], []⟩)) (.go 6 .nil) = (((not (iLe ((len : Nat) : Int) ((k : Nat) : Int))) = false ∧ (True ∧ True))) by kernel_rfl]
  (try simp only [iLe_t, iLe_f, iEq_t, iEq_f, small_t, small_f, cmin, cmax, not_t, not_f, boolEq_t, boolEq_f, ble_t, ble_f, blt_t, blt_f, beq_t, beq_f, iIn_t, iIn_f, allI_cells, allR_rows, cond_true, cond_false, true_and, and_true, eq_self]); (repeat' (first | exact True.intro | (with_reducible assumption) | refine And.intro ?_ ?_ | refine cond_mk ?_ ?_ | intro _)); all_goals (first | (with_reducible assumption) | (with_reducible rfl) | omega | rfl | (simp only [iLe_t, iLe_f, iEq_t, iEq_f, small_t, small_f, cmin, cmax, not_t, not_f, boolEq_t, boolEq_f, ble_t, ble_f, blt_t, blt_f, beq_t, beq_f, iIn_t, iIn_f, allI_cells, allR_rows, cond_true, cond_false, true_and, and_true, eq_self]; first | done | omega | (with_reducible assumption) | rfl))⟩
theorem fY1  : VC (fromD Tryz.prog noExt 300 53 [1,0,1,0] (Lv.res ltY 18 (endH (heap0 2) ltY 60 (.exit 0 ⟨[], []⟩)) (.exit 0 ⟨[], []⟩)) (.bool false)) .nil := ⟨by
  rw [show vc (fromD Tryz.prog noExt 300 53 [1,0,1,0] (Lv.res ltY 18 (endH (heap0 2) ltY 60 (.exit 0 ⟨[], []⟩)) (.exit 0 ⟨[], []⟩)) (.bool false)) .nil = ((false = false)) by kernel_rfl]
  (try simp only [iLe_t, iLe_f, iEq_t, iEq_f, small_t, small_f, cmin, cmax, not_t, not_f, boolEq_t, boolEq_f, ble_t, ble_f, blt_t, blt_f, beq_t, beq_f, iIn_t, iIn_f, allI_cells, allR_rows, cond_true, cond_false, true_and, and_true, eq_self]); (repeat' (first | exact True.intro | (with_reducible assumption) | refine And.intro ?_ ?_ | refine cond_mk ?_ ?_ | intro _)); all_goals (first | (with_reducible assumption) | (with_reducible rfl) | omega | rfl | (simp only [iLe_t, iLe_f, iEq_t, iEq_f, small_t, small_f, cmin, cmax, not_t, not_f, boolEq_t, boolEq_f, ble_t, ble_f, blt_t, blt_f, beq_t, beq_f, iIn_t, iIn_f, allI_cells, allR_rows, cond_true, cond_false, true_and, and_true, eq_self]; first | done | omega | (with_reducible assumption) | rfl))⟩
theorem fY2  : VC (fromD Tryz.prog noExt 300 53 [1,0,1,0] (Lv.res ltY 18 (endH (heap0 2) ltY 60 (.ret ⟨[.bool true], []⟩)) (.ret ⟨[.bool true], []⟩)) (.bool true)) .nil := ⟨by
  rw [show vc (fromD Tryz.prog noExt 300 53 [1,0,1,0] (Lv.res ltY 18 (endH (heap0 2) ltY 60 (.ret ⟨[.bool true], []⟩)) (.ret ⟨[.bool true], []⟩)) (.bool true)) .nil = ((true = true)) by kernel_rfl]
  (try simp only [iLe_t, iLe_f, iEq_t, iEq_f, small_t, small_f, cmin, cmax, not_t, not_f, boolEq_t, boolEq_f, ble_t, ble_f, blt_t, blt_f, beq_t, beq_f, iIn_t, iIn_f, allI_cells, allR_rows, cond_true, cond_false, true_and, and_true, eq_self]); (repeat' (first | exact True.intro | (with_reducible assumption) | refine And.intro ?_ ?_ | refine cond_mk ?_ ?_ | intro _)); all_goals (first | (with_reducible assumption) | (with_reducible rfl) | omega | rfl | (simp only [iLe_t, iLe_f, iEq_t, iEq_f, small_t, small_f, cmin, cmax, not_t, not_f, boolEq_t, boolEq_f, ble_t, ble_f, blt_t, blt_f, beq_t, beq_f, iIn_t, iIn_f, allI_cells, allR_rows, cond_true, cond_false, true_and, and_true, eq_self]; first | done | omega | (with_reducible assumption) | rfl))⟩
noncomputable def neB (g : Nat → Nat → Int) (x : Int) (i : Nat) : Bool := decide (¬ g i 0 = x)
noncomputable def hasB (g : Nat → Nat → Int) (len : Nat) (x : Int) : Bool := not (allN (neB g x) len)
noncomputable def valHa : Val := fun das => match das with | [.one (.sl 1 len g), .one (.i .i64 x)] => some (Nat.ble len 1000, .bool (hasB g len x)) | _ => none
theorem has_t {g : Nat → Nat → Int} {len : Nat} {x : Int} : hasB g len x = true ↔ ∃ i, i < len ∧ g i 0 = x := by
  unfold hasB
  constructor
  · intro h
    rcases first_bad (neB g x) len with q | ⟨N, h1, h2, h3⟩
    · rw [allN_true q] at h; cases h
    · unfold neB at h3
      have := of_decide_eq_false h3
      exact ⟨N, h1, by omega⟩
  · rintro ⟨i, hi, e⟩
    rw [allN_false hi (by unfold neB; exact decide_eq_false (fun q => q e))]; rfl
theorem conHa : Con Tryz.prog 53 valHa := by
  intro das v hv
  unfold valHa at hv
  split at hv
  · rename_i len g x
    have hb := Nat.le_of_ble_eq_true (congrArg Prod.fst (Option.some.inj hv))
    have hv := congrArg Prod.snd (Option.some.inj hv)
    subst hv
    refine ⟨rfl, ?_⟩
    rcases first_bad (neB g x) len with h | ⟨N, h1, h2, h3⟩
    · have e : hasB g len x = false := by unfold hasB; rw [allN_true h]; rfl
      rw [e]
      exact con_loopD drawnC noExt_ok (das := dasY len g x) (lv := .exit 0 ⟨[], []⟩) (by kernel_rfl) (by kernel_rfl) (eY len g x).ok (loop_rule (body := bY) (fun _ e => by cases e) len (sY len g x) (fun k hk =>
        round_of drawnC noExt_ok (rY1 len g x k hk hb (of_decide_eq_true (h k hk))).ok (by kernel_rfl) (by kernel_rfl)) (round_of drawnC noExt_ok (rY3 len g x len (by omega)).ok (by kernel_rfl) (by kernel_rfl))) fY1.ok
    · have e : hasB g len x = true := by unfold hasB; rw [allN_false h1 h3]; rfl
      rw [e]
      have q := of_decide_eq_false (show decide (¬ g N 0 = x) = false from h3)
      exact con_loopD drawnC noExt_ok (das := dasY len g x) (lv := .ret ⟨[.bool true], []⟩) (by kernel_rfl) (by kernel_rfl) (eY len g x).ok (loop_rule (body := bY) (fun _ e => by cases e) N (sY len g x) (fun k hk =>
        round_of drawnC noExt_ok (rY1 len g x k (by omega) hb (of_decide_eq_true (h2 k hk))).ok (by kernel_rfl) (by kernel_rfl)) (round_of drawnC noExt_ok (rY2 len g x N h1 hb (by omega)).ok (by kernel_rfl) (by kernel_rfl))) fY2.ok
  · cases hv
end
end Go.Proofs.YtdgaghmjocokcaaGreat
