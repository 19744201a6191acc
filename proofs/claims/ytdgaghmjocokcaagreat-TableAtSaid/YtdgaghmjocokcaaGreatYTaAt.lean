/- TableAt: for every input the law returns true: whether a table is valid, and the strength at any point, are those of the reference, or the error is. No condition. -/
import Derived.Test.YtdgaghmjocokcaaGreatRows
import Derived.WalkKit
import Derived.Test.YtdgaghmjocokcaaGreatYTaA2
import Derived.Test.YtdgaghmjocokcaaGreatYTaM6
import Derived.Test.YtdgaghmjocokcaaGreatYTaArg
set_option linter.all false
set_option linter.unusedSimpArgs false
set_option linter.unusedVariables false
namespace Go.Proofs.YtdgaghmjocokcaaGreat
open Go Go.Ev Go.ChangeShapes Go.WideShapes Go.ChangeAt Go.RowKit
set_option maxRecDepth 1000000
noncomputable section
def valG : Val := fun das => match das with
  | [.st [.sl 1 lw fw, .sl 1 lm fm, .rr 1 n ls f], .one (.i .i64 x), .one (.i .i64 y)] => some (true, .bool true)
  | _ => none
theorem conG : Con Tryz.prog 3 valG := by
  intro das x hv
  unfold valG at hv
  split at hv
  · rename_i lw fw lm fm n ls f x y
    have hv := congrArg Prod.snd (Option.some.inj hv)
    subst hv
    have fin : ∀ {h : HT}, VC (runD0 Tryz.prog XL2 600 3 (enc [.st [.sl 1 lw fw, .sl 1 lm fm, .rr 1 n ls f], .one (.i .i64 x), .one (.i .i64 y)] 0) 3 (fun v => valP v (.bool true))) h → flatV (.bool true) = true ∧ ∃ v' H', SpecCall Tryz.prog 3 (enc [.st [.sl 1 lw fw, .sl 1 lm fm, .rr 1 n ls f], .one (.i .i64 x), .one (.i .i64 y)] 0) (heap0 4) v' H' ∧ valP v' (.bool true) := fun hvc =>
      con_runV drawnC XL2_ok rfl (das := [.st [.sl 1 lw fw, .sl 1 lm fm, .rr 1 n ls f], .one (.i .i64 x), .one (.i .i64 y)]) hvc
    cases hth : thB lw lm n ls with
    | false => exact fin (la1 lw fw lm fm n ls f x y hth)
    | true =>
    have hs := th_sm hth
    obtain ⟨g1, g2, g3, g4⟩ := smB_get hs
    have et := fa_tab lw fw lm fm n ls f
    by_cases hf : faE lw fw lm fm n ls f = 0
    · have ht : tabE lw fw lm fm n ls f = 0 := by rw [← et]; exact hf
      have ok := tabE_get ht
      by_cases hr : onB lw fw x ∧ onB lm fm y
      · have ha := at_ok ht hr.1 hr.2
        have hr1 := hr.1.2
        have hr2 := hr.2.2
        exact fin (la4 lw fw lm fm n ls f x y hth hs g1 g2 g3 g4 hf ht ha.1 ha.2 ⟨ok.w.two, ok.w.five⟩ ⟨ok.m.two, ok.m.five⟩ hr.1.1 (by rw [last_n ok.w.two]; exact hr1) hr.2.1 (by rw [last_n ok.m.two]; exact hr2) (onI_t.mpr hr.1) (onI_t.mpr hr.2))
      · rcases atE_cases lw fw lm fm n ls f x y with ⟨q, _⟩ | ⟨_, _, q, e1, e2⟩ | ⟨_, _, q1, q2, _⟩
        · exact absurd ht q
        · refine fin (la3 lw fw lm fm n ls f x y hth hs g1 g2 g3 g4 hf ht e1 e2 ⟨ok.w.two, ok.w.five⟩ ⟨ok.m.two, ok.m.five⟩ ?_)
          rw [last_n ok.w.two, last_n ok.m.two]
          intro p
          exact hr ⟨⟨p.1, p.2.1⟩, ⟨p.2.2.1, p.2.2.2⟩⟩
        · exact absurd ⟨q1, q2⟩ hr
    · rcases atE_cases lw fw lm fm n ls f x y with ⟨q, e1, e2⟩ | ⟨_, q, _⟩ | ⟨_, q, _⟩
      · exact fin (la2 lw fw lm fm n ls f x y hth hs g1 g2 g3 g4 hf et.symm (e1.trans et.symm) e2)
      · rw [← et] at q; exact absurd q hf
      · rw [← et] at q; exact absurd q hf
  · cases hv
end
theorem at_any {W : World} {H : Type} {enc : TypeId × Value → H} {base : Nat} {args : List Value} {ds : List (DataW H)} {p : List MemPlace} (hval : ∀ (j : Nat) t v, Tryz.f3.params[j]? = some t → args[j]? = some v → Value.okWide Tryz.prog W .any base t v)
    (hA : DataW.TrodAll enc Tryz.prog W 0 (fun _ => true) true Tryz.f3.params.toList args ds p) : Calls Tryz.prog 3 args.toArray W (fun e w' => e = .returned (.bool true) ∧ Below W.heap.size W w') := by
  rw [Tryz.params3] at hA hval
  obtain ⟨x0, a0, d0, _, _, _, rfl, rfl, rfl, t0, hA⟩ := trodAll_cons hA
  obtain ⟨x1, a1, d1, _, _, _, rfl, rfl, rfl, t1, hA⟩ := trodAll_cons hA
  obtain ⟨x2, a2, d2, _, _, _, rfl, rfl, rfl, t2, hA⟩ := trodAll_cons hA
  obtain ⟨rfl, rfl, rfl⟩ := trodAll_nil hA
  obtain ⟨lw, fw, lm, fm, n, ls, f, r0⟩ := table_arg t0
  obtain ⟨n1, r1, b1⟩ := arg_int (P := Tryz.prog) (k := .i64) (by kernel_rfl) (hval 1 _ x1 rfl rfl) t1
  obtain ⟨n2, r2, b2⟩ := arg_int (P := Tryz.prog) (k := .i64) (by kernel_rfl) (hval 2 _ x2 rfl rfl) t2
  have hcf : cf valG [.agg 3 (T.setL .lf 0 [.fz true 0 (cellsI .i64 fw) lw 1, .fz true 0 (cellsI .i64 fm) lm 1, .fz true 0 (rowsI 0 1 ls f) n 1]), .int .i64 n1, .int .i64 n2] (heap0 1) = some (true, .bool true) := by
    have e1 : okL [.agg 3 (T.setL .lf 0 [.fz true 0 (cellsI .i64 fw) lw 1, .fz true 0 (cellsI .i64 fm) lm 1, .fz true 0 (rowsI 0 1 ls f) n 1]), .int .i64 n1, .int .i64 n2] = cond (cond (allI .i64 (cellsI .i64 fw) lw 1) (cond (allI .i64 (cellsI .i64 fm) lm 1) (cond (allR 0 (rowsI 0 1 ls f) n 1) true false) false) false) true false := by kernel_rfl
    have e2 : cf valG [.agg 3 (T.setL .lf 0 [.fz true 0 (cellsI .i64 fw) lw 1, .fz true 0 (cellsI .i64 fm) lm 1, .fz true 0 (rowsI 0 1 ls f) n 1]), .int .i64 n1, .int .i64 n2] (heap0 1) = some (cond (okL [.agg 3 (T.setL .lf 0 [.fz true 0 (cellsI .i64 fw) lw 1, .fz true 0 (cellsI .i64 fm) lm 1, .fz true 0 (rowsI 0 1 ls f) n 1]), .int .i64 n1, .int .i64 n2]) (true) false, .bool true) := by kernel_rfl
    rw [e2, e1, allI_cells, allI_cells, allR_rows]; rfl
  have hs : SpecCall Tryz.prog 3 [.agg 3 (T.setL .lf 0 [.fz true 0 (cellsI .i64 fw) lw 1, .fz true 0 (cellsI .i64 fm) lm 1, .fz true 0 (rowsI 0 1 ls f) n 1]), .int .i64 n1, .int .i64 n2] (heap0 1) (.bool true) (bump (heap0 1)) := con_ok conG _ _ _ hcf
  have hal := al_cons r0 (al_cons r1 (al_cons r2 (show AL (renW W) [] ([] : List Value).toArray from AL.nil _)))
  exact (run_args hs hal).mono fun e w' ⟨x, R, h1, h2, h3⟩ => by cases h2; exact ⟨h1, h3⟩
theorem at_lifted (os : Os) (started : os.Started) (H : Type) (enc : TypeId × Value → H) :
    ReturnsInHanded {} Tryz.checked os 3 .any (Rows.tableAtSpec.pre6 enc Tryz.prog Tryz.f3 Rows.tableAtRow.domain false) (Rows.tableAtSpec.post enc Tryz.prog Tryz.f3 false true false false) := by
  refine returnsInHanded_of_change (C := Tryz.checked) own started (by kernel_rfl) Tryz.func3
    (ChangeSpec.witness6 (enc := enc) (C := Tryz.checked) false ⟨#[], #[.agg #[.slice none 0 0, .slice none 0 0, .slice none 0 0], .int .i64 0, .int .i64 0], []⟩ 8 (by kernel_rfl) (by kernel_rfl) (by kernel_rfl) (by kernel_rfl)) ?_
  intro W base args ds gs before hval0 hW hcnd _
  have hW' := hW
  obtain ⟨p, q, hA0, hV, rfl, hfz, hnd⟩ := hW
  have hval : ∀ (j : Nat) t v, Tryz.f3.params[j]? = some t → args.toList[j]? = some v → Value.okWide Tryz.prog W .any base t v := fun j t v h1 h2 => hval0 j t v h1 (by simpa using h2)
  have h := at_any (args := args.toList) hval hA0
  rw [show args.toList.toArray = args by simp] at h
  have hds : ∃ a b c, ds = [a, b, c] := by
    rw [Tryz.params3] at hA0
    obtain ⟨x0, a0, d0, _, _, _, _, rfl, _, _, hA0⟩ := trodAll_cons hA0
    obtain ⟨x1, a1, d1, _, _, _, _, rfl, _, _, hA0⟩ := trodAll_cons hA0
    obtain ⟨x2, a2, d2, _, _, _, _, rfl, _, _, hA⟩ := trodAll_cons hA0
    obtain ⟨_, rfl, _⟩ := trodAll_nil hA
    exact ⟨_, _, _, rfl⟩
  obtain ⟨a, b, c, rfl⟩ := hds
  refine h.mono fun e W' ⟨he, hb⟩ => ?_
  exact ⟨_, he, Law.law_post laidOut (tb := 4) (by kernel_rfl) Tryz.underlying4 (fun t ht => by
    rw [Tryz.params3] at ht
    have ht : t ∈ [25, 3, 3] := ht
    simp only [List.mem_cons, List.not_mem_nil, or_false] at ht
    rcases ht with rfl | rfl | rfl <;> exact ⟨by kernel_rfl, of_decide_eq_true (by kernel_rfl)⟩) rfl hW' rfl rfl rfl hb⟩
theorem tableAt_holds : Rows.TableAtSaid :=
  OpenClaim.holds_of_wide 3 Tryz.f3 rfl rfl rfl rfl rfl rfl rfl ⟨rfl, rfl, rfl, rfl, rfl⟩ rfl rfl rfl rfl rfl (by kernel_rfl) Tryz.func3 (by kernel_rfl)
    (of_decide_eq_true (by kernel_rfl)) (by unfold Func.isWrapper; first | (rw [if_pos (by decide +kernel)]; kernel_rfl) | (rw [if_neg (by decide +kernel)]; exact ⟨rfl, rfl⟩))
    (fun os started H enc _ => at_lifted os started H enc)
#print axioms tableAt_holds
end Go.Proofs.YtdgaghmjocokcaaGreat
