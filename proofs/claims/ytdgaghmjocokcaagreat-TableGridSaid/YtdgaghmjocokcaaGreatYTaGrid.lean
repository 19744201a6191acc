/- TableGrid: for every input the law returns true: at a point of the grid the strength is the printed value, and the bounds of a cell are the minimum and the maximum of the four values around it. No condition. -/
import Derived.Test.YtdgaghmjocokcaaGreatRows
import Derived.WalkKit
import Derived.Test.YtdgaghmjocokcaaGreatYTaG1
import Derived.Test.YtdgaghmjocokcaaGreatYTaArg
set_option linter.all false
set_option linter.unusedSimpArgs false
set_option linter.unusedVariables false
namespace Go.Proofs.YtdgaghmjocokcaaGreat
open Go Go.Ev Go.ChangeShapes Go.WideShapes Go.ChangeAt Go.RowKit
set_option maxRecDepth 1000000
noncomputable section
def valG : Val := fun das => match das with
  | [.st [.sl 1 lw fw, .sl 1 lm fm, .rr 1 n ls f], .one (.i .u8 a), .one (.i .u8 b)] => some (decide (0 ≤ a ∧ a ≤ 255 ∧ 0 ≤ b ∧ b ≤ 255), .bool true)
  | _ => none
theorem tmod_bd {a b : Int} (ha : 0 ≤ a) (hb : 1 ≤ b) : 0 ≤ Int.tmod a b ∧ Int.tmod a b < b := by
  rw [Int.tmod_eq_emod_of_nonneg ha]
  exact ⟨Int.emod_nonneg _ (by omega), Int.emod_lt_of_pos _ (by omega)⟩
section
variable {lw : Nat} {fw : Nat → Nat → Int} {lm : Nat} {fm : Nat → Nat → Int} {n : Nat} {ls : Nat → Nat} {f : Nat → Nat → Nat → Int}
theorem at_ok {x y : Int} (h : tabE lw fw lm fm n ls f = 0) (hx : onB lw fw x) (hy : onB lm fm y) : atE lw fw lm fm n ls f x y = 0 ∧ atV lw fw lm fm n ls f x y = strI lw fw lm fm f x y := by
  rcases atE_cases lw fw lm fm n ls f x y with ⟨q, _⟩ | ⟨_, _, q, _⟩ | ⟨_, _, _, _, e1, e2⟩
  · exact absurd h q
  · exact absurd ⟨hx, hy⟩ q
  · exact ⟨e1, e2⟩
theorem bo_ok {a b c d : Int} (h : tabE lw fw lm fm n ls f = 0) (hx : rgB lw fw a b) (hy : rgB lm fm c d) : boE lw fw lm fm n ls f a b c d = 0 ∧ boL lw fw lm fm n ls f a b c d = bdL lw fw lm fm f a b c d ∧ boH lw fw lm fm n ls f a b c d = bdH lw fw lm fm f a b c d := by
  rcases boE_cases lw fw lm fm n ls f a b c d with ⟨q, _⟩ | ⟨_, _, q, _⟩ | ⟨_, _, _, _, e1, e2, e3⟩
  · exact absurd h q
  · exact absurd ⟨hx, hy⟩ q
  · exact ⟨e1, e2, e3⟩
end
theorem conG : Con Tryz.prog 10 valG := by
  intro das x hv
  unfold valG at hv
  split at hv
  · rename_i lw fw lm fm n ls f a b
    have hb := congrArg Prod.fst (Option.some.inj hv)
    have hv := congrArg Prod.snd (Option.some.inj hv)
    subst hv
    have h8 := of_decide_eq_true hb
    cases hth : thB lw lm n ls with
    | false => exact con_runV drawnC XL_ok rfl (das := [.st [.sl 1 lw fw, .sl 1 lm fm, .rr 1 n ls f], .one (.i .u8 a), .one (.i .u8 b)]) (lg1 lw fw lm fm n ls f a b hth)
    | true =>
    by_cases hf : faE lw fw lm fm n ls f = 0
    · have ht : tabE lw fw lm fm n ls f = 0 := by rw [← fa_tab]; exact hf
      have ok := tabE_get ht
      have w2 := ok.w.two
      have w5 := ok.w.five
      have m2 := ok.m.two
      have m5 := ok.m.five
      have hI := tmod_bd (a := a) (b := ((lw : Nat) : Int) - 1) (by omega) (by omega)
      have hK := tmod_bd (a := b) (b := ((lm : Nat) : Int) - 1) (by omega) (by omega)
      obtain ⟨i, ei⟩ : ∃ i : Nat, Int.tmod a (((lw : Nat) : Int) - 1) = (i : Int) := ⟨Int.toNat (Int.tmod a (((lw : Nat) : Int) - 1)), by omega⟩
      obtain ⟨k, ek⟩ : ∃ k : Nat, Int.tmod b (((lm : Nat) : Int) - 1) = (k : Int) := ⟨Int.toNat (Int.tmod b (((lm : Nat) : Int) - 1)), by omega⟩
      have r0 : Int.toNat (Int.tmod a (((lw : Nat) : Int) - 1)) = i := by omega
      have r1 : Int.toNat (Int.tmod a (((lw : Nat) : Int) - 1) + 1) = i + 1 := by omega
      have c0 : Int.toNat (Int.tmod b (((lm : Nat) : Int) - 1)) = k := by omega
      have c1 : Int.toNat (Int.tmod b (((lm : Nat) : Int) - 1) + 1) = k + 1 := by omega
      have i2 : i + 2 ≤ lw := by omega
      have k2 : k + 2 ≤ lm := by omega
      have pt : ∀ {p q : Nat}, p < lw → q < lm → atE lw fw lm fm n ls f (fw p 0) (fm q 0) = 0 ∧ atV lw fw lm fm n ls f (fw p 0) (fm q 0) = f p q 0 := fun {p q} hp hq => by
        have := at_ok ht (on_line ok.w hp) (on_line ok.m hq)
        exact ⟨this.1, this.2.trans (str_grid ok hp hq)⟩
      have bo := bo_ok ht (a := fw i 0) (b := fw (i + 1) 0) (c := fm k 0) (d := fm (k + 1) 0) ⟨by have := ok.w.up i (by omega); omega, on_line ok.w (by omega), on_line ok.w (by omega)⟩ ⟨by have := ok.m.up k (by omega); omega, on_line ok.m (by omega), on_line ok.m (by omega)⟩
      have bc := bd_cell ok i2 k2
      refine con_runV drawnC XL_ok rfl (das := [.st [.sl 1 lw fw, .sl 1 lm fm, .rr 1 n ls f], .one (.i .u8 a), .one (.i .u8 b)]) (lg3 lw fw lm fm n ls f a b hth hf (th_sm hth) ⟨by omega, by omega⟩ ⟨by omega, by omega⟩ ⟨w2, w5⟩ ⟨m2, m5⟩ ok.n ⟨by omega, by omega⟩ ⟨by omega, by omega⟩ ?_ ?_ ?_ ?_ ?_ ?_ ?_ ?_ ?_ ?_ ?_ ?_ ?_ ?_ ?_ ?_ ?_) <;> simp only [r0, r1, c0, c1]
      · exact ok.l i (by omega)
      · exact ok.l (i + 1) (by omega)
      · exact (pt (by omega) (by omega)).1
      · exact (pt (by omega) (by omega)).1
      · exact (pt (by omega) (by omega)).1
      · exact (pt (by omega) (by omega)).1
      · exact (pt (by omega) (by omega)).2
      · exact (pt (by omega) (by omega)).2
      · exact (pt (by omega) (by omega)).2
      · exact (pt (by omega) (by omega)).2
      · exact ok.v i k (by omega) (by omega)
      · exact ok.v i (k + 1) (by omega) (by omega)
      · exact ok.v (i + 1) k (by omega) (by omega)
      · exact ok.v (i + 1) (k + 1) (by omega) (by omega)
      · exact bo.1
      · exact bo.2.1.trans bc.1
      · exact bo.2.2.trans bc.2
    · exact con_runV drawnC XL_ok rfl (das := [.st [.sl 1 lw fw, .sl 1 lm fm, .rr 1 n ls f], .one (.i .u8 a), .one (.i .u8 b)]) (lg2 lw fw lm fm n ls f a b hth hf)
  · cases hv
end
theorem grid_any {W : World} {H : Type} {enc : TypeId × Value → H} {base : Nat} {args : List Value} {ds : List (DataW H)} {p : List MemPlace} (hval : ∀ (j : Nat) t v, Tryz.f10.params[j]? = some t → args[j]? = some v → Value.okWide Tryz.prog W .any base t v)
    (hA : DataW.TrodAll enc Tryz.prog W 0 (fun _ => true) true Tryz.f10.params.toList args ds p) : Calls Tryz.prog 10 args.toArray W (fun e w' => e = .returned (.bool true) ∧ Below W.heap.size W w') := by
  rw [Tryz.params10] at hA hval
  obtain ⟨x0, a0, d0, _, _, _, rfl, rfl, rfl, t0, hA⟩ := trodAll_cons hA
  obtain ⟨x1, a1, d1, _, _, _, rfl, rfl, rfl, t1, hA⟩ := trodAll_cons hA
  obtain ⟨x2, a2, d2, _, _, _, rfl, rfl, rfl, t2, hA⟩ := trodAll_cons hA
  obtain ⟨rfl, rfl, rfl⟩ := trodAll_nil hA
  obtain ⟨lw, fw, lm, fm, n, ls, f, r0⟩ := table_arg t0
  obtain ⟨n1, r1, b1⟩ := arg_int (P := Tryz.prog) (k := .u8) (by kernel_rfl) (hval 1 _ x1 rfl rfl) t1
  obtain ⟨n2, r2, b2⟩ := arg_int (P := Tryz.prog) (k := .u8) (by kernel_rfl) (hval 2 _ x2 rfl rfl) t2
  have hcf : cf valG [.agg 3 (T.setL .lf 0 [.fz true 0 (cellsI .i64 fw) lw 1, .fz true 0 (cellsI .i64 fm) lm 1, .fz true 0 (rowsI 0 1 ls f) n 1]), .int .u8 n1, .int .u8 n2] (heap0 1) = some (true, .bool true) := by
    have q1 : IntKind.u8.min = 0 := by kernel_rfl
    have p1 : IntKind.u8.max = 255 := by kernel_rfl
    rw [q1, p1] at b1
    have q2 : IntKind.u8.min = 0 := by kernel_rfl
    have p2 : IntKind.u8.max = 255 := by kernel_rfl
    rw [q2, p2] at b2
    have hd : decide (0 ≤ n1 ∧ n1 ≤ 255 ∧ 0 ≤ n2 ∧ n2 ≤ 255) = true := decide_eq_true (by omega)
    have e1 : okL [.agg 3 (T.setL .lf 0 [.fz true 0 (cellsI .i64 fw) lw 1, .fz true 0 (cellsI .i64 fm) lm 1, .fz true 0 (rowsI 0 1 ls f) n 1]), .int .u8 n1, .int .u8 n2] = cond (cond (allI .i64 (cellsI .i64 fw) lw 1) (cond (allI .i64 (cellsI .i64 fm) lm 1) (cond (allR 0 (rowsI 0 1 ls f) n 1) true false) false) false) true false := by kernel_rfl
    have e2 : cf valG [.agg 3 (T.setL .lf 0 [.fz true 0 (cellsI .i64 fw) lw 1, .fz true 0 (cellsI .i64 fm) lm 1, .fz true 0 (rowsI 0 1 ls f) n 1]), .int .u8 n1, .int .u8 n2] (heap0 1) = some (cond (okL [.agg 3 (T.setL .lf 0 [.fz true 0 (cellsI .i64 fw) lw 1, .fz true 0 (cellsI .i64 fm) lm 1, .fz true 0 (rowsI 0 1 ls f) n 1]), .int .u8 n1, .int .u8 n2]) (decide (0 ≤ n1 ∧ n1 ≤ 255 ∧ 0 ≤ n2 ∧ n2 ≤ 255)) false, .bool true) := by kernel_rfl
    rw [e2, e1, allI_cells, allI_cells, allR_rows, hd]; rfl
  have hs : SpecCall Tryz.prog 10 [.agg 3 (T.setL .lf 0 [.fz true 0 (cellsI .i64 fw) lw 1, .fz true 0 (cellsI .i64 fm) lm 1, .fz true 0 (rowsI 0 1 ls f) n 1]), .int .u8 n1, .int .u8 n2] (heap0 1) (.bool true) (bump (heap0 1)) := con_ok conG _ _ _ hcf
  have hal := al_cons r0 (al_cons r1 (al_cons r2 (show AL (renW W) [] ([] : List Value).toArray from AL.nil _)))
  exact (run_args hs hal).mono fun e w' ⟨x, R, h1, h2, h3⟩ => by cases h2; exact ⟨h1, h3⟩
theorem grid_lifted (os : Os) (started : os.Started) (H : Type) (enc : TypeId × Value → H) :
    ReturnsInHanded {} Tryz.checked os 10 .any (Rows.tableGridSpec.pre6 enc Tryz.prog Tryz.f10 Rows.tableGridRow.domain false) (Rows.tableGridSpec.post enc Tryz.prog Tryz.f10 false true false false) := by
  refine returnsInHanded_of_change (C := Tryz.checked) own started (by kernel_rfl) Tryz.func10
    (ChangeSpec.witness6 (enc := enc) (C := Tryz.checked) false ⟨#[], #[.agg #[.slice none 0 0, .slice none 0 0, .slice none 0 0], .int .u8 0, .int .u8 0], []⟩ 8 (by kernel_rfl) (by kernel_rfl) (by kernel_rfl) (by kernel_rfl)) ?_
  intro W base args ds gs before hval0 hW hcnd _
  have hW' := hW
  obtain ⟨p, q, hA0, hV, rfl, hfz, hnd⟩ := hW
  have hval : ∀ (j : Nat) t v, Tryz.f10.params[j]? = some t → args.toList[j]? = some v → Value.okWide Tryz.prog W .any base t v := fun j t v h1 h2 => hval0 j t v h1 (by simpa using h2)
  have h := grid_any (args := args.toList) hval hA0
  rw [show args.toList.toArray = args by simp] at h
  have hds : ∃ a b c, ds = [a, b, c] := by
    rw [Tryz.params10] at hA0
    obtain ⟨x0, a0, d0, _, _, _, _, rfl, _, _, hA0⟩ := trodAll_cons hA0
    obtain ⟨x1, a1, d1, _, _, _, _, rfl, _, _, hA0⟩ := trodAll_cons hA0
    obtain ⟨x2, a2, d2, _, _, _, _, rfl, _, _, hA⟩ := trodAll_cons hA0
    obtain ⟨_, rfl, _⟩ := trodAll_nil hA
    exact ⟨_, _, _, rfl⟩
  obtain ⟨a, b, c, rfl⟩ := hds
  refine h.mono fun e W' ⟨he, hb⟩ => ?_
  exact ⟨_, he, Law.law_post laidOut (tb := 4) (by kernel_rfl) Tryz.underlying4 (fun t ht => by
    rw [Tryz.params10] at ht
    have ht : t ∈ [25, 5, 5] := ht
    simp only [List.mem_cons, List.not_mem_nil, or_false] at ht
    rcases ht with rfl | rfl | rfl <;> exact ⟨by kernel_rfl, of_decide_eq_true (by kernel_rfl)⟩) rfl hW' rfl rfl rfl hb⟩
theorem tableGrid_holds : Rows.TableGridSaid :=
  OpenClaim.holds_of_wide 10 Tryz.f10 rfl rfl rfl rfl rfl rfl rfl ⟨rfl, rfl, rfl, rfl, rfl⟩ rfl rfl rfl rfl rfl (by kernel_rfl) Tryz.func10 (by kernel_rfl)
    (of_decide_eq_true (by kernel_rfl)) (by unfold Func.isWrapper; first | (rw [if_pos (by decide +kernel)]; kernel_rfl) | (rw [if_neg (by decide +kernel)]; exact ⟨rfl, rfl⟩))
    (fun os started H enc _ => grid_lifted os started H enc)
#print axioms tableGrid_holds
end Go.Proofs.YtdgaghmjocokcaaGreat
