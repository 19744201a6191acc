/- TableBounds: for every input the law returns true: the bounds of the strength for any ranges, and the marks that can mean any strengths, are those of the reference, or the error is. No condition. -/
import Derived.Test.YtjikkfiohppnfaaGreatRows
import Derived.WalkKit
import Derived.Test.YtjikkfiohppnfaaGreatYTaV3
import Derived.Test.YtjikkfiohppnfaaGreatYTaArg
set_option linter.all false
set_option linter.unusedSimpArgs false
set_option linter.unusedVariables false
namespace Go.Proofs.YtjikkfiohppnfaaGreat
open Go Go.Ev Go.ChangeShapes Go.WideShapes Go.ChangeAt Go.RowKit
set_option maxRecDepth 1000000
noncomputable section
theorem range_arg {W : World} {H : Type} {enc : TypeId × Value → H} {sp : Nat → Bool} {x : Value} {d : DataW H} {ps : List MemPlace} (h : DataW.Trod enc Tryz.prog W 0 sp true 38 x d ps) :
    ∃ lo hi, VR (renW W) (.agg 2 (T.setL .lf 0 [.int .i64 lo, .int .i64 hi])) x := by
  have ht : flatTy Tryz.prog 8 38 = [3, 3] := by kernel_rfl
  obtain ⟨fs, hu⟩ : ∃ fs, Tryz.prog.underlying 38 = some (.struct fs) := ⟨_, Tryz.underlying38⟩
  obtain ⟨vs, h1, h2, h3⟩ := arg_struct (P := Tryz.prog) (t := 38) (n := 2) (by kernel_rfl) hu (by kernel_rfl) (by rw [ht]; rfl) (by decide) h
  match vs, h1, h2, h3 with
  | [v0, v1], _, h2, h3 =>
    have i3 : Tryz.prog.underlying 3 = some (.int .i64) := Tryz.underlying3
    obtain ⟨lo, rfl, _⟩ := ShC_int i3 (h3 0 (by simp) 3 (by rw [ht]; rfl))
    obtain ⟨hi, rfl, _⟩ := ShC_int i3 (h3 1 (by simp) 3 (by rw [ht]; rfl))
    exact ⟨lo, hi, h2⟩
theorem rg_iff {len : Nat} {g : Nat → Nat → Int} {a b : Int} (h : 2 ≤ len) : (a ≤ b ∧ g 0 0 ≤ a ∧ a ≤ g (Int.toNat ((len : Int) - 1)) 0 ∧ g 0 0 ≤ b ∧ b ≤ g (Int.toNat ((len : Int) - 1)) 0) ↔ rgB len g a b := by
  rw [last_n h]
  unfold rgB onB
  exact ⟨fun q => ⟨q.1, ⟨q.2.1, q.2.2.1⟩, ⟨q.2.2.2.1, q.2.2.2.2⟩⟩, fun q => ⟨q.1, q.2.1.1, q.2.1.2, q.2.2.1, q.2.2.2⟩⟩
def valG : Val := fun das => match das with
  | [.st [.sl 1 lw fw, .sl 1 lm fm, .rr 1 n ls f], .st [.i .i64 a, .i .i64 b], .st [.i .i64 c, .i .i64 d], .st [.i .i64 sl, .i .i64 sh]] => some (true, .bool true)
  | _ => none
theorem conG : Con Tryz.prog 4 valG := by
  intro das x hv
  unfold valG at hv
  split at hv
  · rename_i lw fw lm fm n ls f a b c d sl sh
    have hv := congrArg Prod.snd (Option.some.inj hv)
    subst hv
    have fin : ∀ {h : HT}, VC (runD0 Tryz.prog XB3 600 4 (enc [.st [.sl 1 lw fw, .sl 1 lm fm, .rr 1 n ls f], .st [.i .i64 a, .i .i64 b], .st [.i .i64 c, .i .i64 d], .st [.i .i64 sl, .i .i64 sh]] 0) 3 (fun v => valP v (.bool true))) h → flatV (.bool true) = true ∧ ∃ v' H', SpecCall Tryz.prog 4 (enc [.st [.sl 1 lw fw, .sl 1 lm fm, .rr 1 n ls f], .st [.i .i64 a, .i .i64 b], .st [.i .i64 c, .i .i64 d], .st [.i .i64 sl, .i .i64 sh]] 0) (heap0 4) v' H' ∧ valP v' (.bool true) := fun hvc =>
      con_runV drawnC XB3_ok rfl (das := [.st [.sl 1 lw fw, .sl 1 lm fm, .rr 1 n ls f], .st [.i .i64 a, .i .i64 b], .st [.i .i64 c, .i .i64 d], .st [.i .i64 sl, .i .i64 sh]]) hvc
    cases hth : thB lw lm n ls with
    | false => exact fin (tq1 lw fw lm fm n ls f a b c d sl sh hth)
    | true =>
    have hs := th_sm hth
    by_cases hf : faE lw fw lm fm n ls f = 0
    · have ht : tabE lw fw lm fm n ls f = 0 := by rw [← fa_tab]; exact hf
      have ok := tabE_get ht
      have g1 : 2 ≤ lw ∧ lw ≤ 5 := ⟨ok.w.two, ok.w.five⟩
      have g2 : 2 ≤ lm ∧ lm ≤ 5 := ⟨ok.m.two, ok.m.five⟩
      have m0 := ok.m.inn 0 (by omega)
      have m9 := ok.m.inn (lm - 1) (by omega)
      have hmc : mcN lw fw lm fm f a b sl sh ≤ 1000 := by
        have q := cnt_le (okm lw fw lm fm f a b sl sh) (fm 0 0) (nK lm fm)
        have q2 : nK lm fm ≤ 1000 := by unfold nK; omega
        exact Nat.le_trans q q2
      have eq : meN lw fw lm fm n ls f a b sl sh = mcN lw fw lm fm f a b sl sh → eqL (meN lw fw lm fm n ls f a b sl sh) (mcN lw fw lm fm f a b sl sh) (mkR lw fw lm fm f a b sl sh) (mkR lw fw lm fm f a b sl sh) = true := fun e => eqL_t.mpr ⟨e, by rw [e]; exact hmc, fun _ _ => rfl⟩
      have bz : ¬ (rgB lw fw a b ∧ rgB lm fm c d) → boE lw fw lm fm n ls f a b c d = 2 ∧ boL lw fw lm fm n ls f a b c d = 0 ∧ boH lw fw lm fm n ls f a b c d = 0 := fun q => by
        rcases boE_cases lw fw lm fm n ls f a b c d with ⟨q1, _⟩ | ⟨_, _, _, e⟩ | ⟨_, _, q1, q2, _⟩
        · exact absurd ht q1
        · exact e
        · exact absurd ⟨q1, q2⟩ q
      have mz : ¬ (rgB lw fw a b ∧ sl ≤ sh) → meE lw fw lm fm n ls f a b sl sh = 2 ∧ meN lw fw lm fm n ls f a b sl sh = 0 := fun q => by
        rcases meE_cases lw fw lm fm n ls f a b sl sh with ⟨q1, _⟩ | ⟨_, _, _, e⟩ | ⟨_, _, q1, q2, _⟩ | ⟨_, _, q1, q2, _⟩
        · exact absurd ht q1
        · exact e
        · exact absurd ⟨q1, q2⟩ q
        · exact absurd ⟨q1, q2⟩ q
      by_cases hw : rgB lw fw a b
      · have hw' := (rg_iff g1.1).mpr hw
        have ow := rgI_t.mpr hw
        by_cases hm : rgB lm fm c d
        · have hm' := (rg_iff g2.1).mpr hm
          have om := rgI_t.mpr hm
          obtain ⟨b0, b1, b2⟩ := bo_ok ht hw hm
          by_cases hl : sl ≤ sh
          · rcases me_ok ht hw hl with ⟨e0, e1, e2⟩ | ⟨e0, e1, e2⟩
            · exact fin (tq7 lw fw lm fm n ls f a b c d sl sh hth hs g1 g2 ht hf hw' ow hm' om b0 b1 b2 hl e1 e0 (eq (by omega)))
            · exact fin (tq8 lw fw lm fm n ls f a b c d sl sh hth hs g1 g2 ht hf hw' ow hm' om b0 b1 b2 hl e1 e0 (eq (by omega)))
          · obtain ⟨e1, e2⟩ := mz fun q => hl q.2
            exact fin (tq9 lw fw lm fm n ls f a b c d sl sh hth hs g1 g2 ht hf hw' ow hm' om b0 b1 b2 hl e1 e2)
        · have hm' : ¬ _ := fun q => hm ((rg_iff g2.1).mp q)
          obtain ⟨b0, b1, b2⟩ := bz fun q => hm q.2
          by_cases hl : sl ≤ sh
          · rcases me_ok ht hw hl with ⟨e0, e1, e2⟩ | ⟨e0, e1, e2⟩
            · exact fin (tq4 lw fw lm fm n ls f a b c d sl sh hth hs g1 g2 ht hf hw' ow hm' b0 b1 b2 hl e1 e0 (eq (by omega)))
            · exact fin (tq5 lw fw lm fm n ls f a b c d sl sh hth hs g1 g2 ht hf hw' ow hm' b0 b1 b2 hl e1 e0 (eq (by omega)))
          · obtain ⟨e1, e2⟩ := mz fun q => hl q.2
            exact fin (tq6 lw fw lm fm n ls f a b c d sl sh hth hs g1 g2 ht hf hw' ow hm' b0 b1 b2 hl e1 e2)
      · obtain ⟨b0, b1, b2⟩ := bz fun q => hw q.1
        obtain ⟨e1, e2⟩ := mz fun q => hw q.1
        exact fin (tq3 lw fw lm fm n ls f a b c d sl sh hth hs g1 g2 ht hf (fun q => hw ((rg_iff g1.1).mp q)) b0 b1 b2 e1 e2)
    · have ht : ¬ tabE lw fw lm fm n ls f = 0 := by rw [← fa_tab]; exact hf
      have q1 : boE lw fw lm fm n ls f a b c d = faE lw fw lm fm n ls f ∧ boL lw fw lm fm n ls f a b c d = 0 ∧ boH lw fw lm fm n ls f a b c d = 0 := by
        rcases boE_cases lw fw lm fm n ls f a b c d with ⟨_, e⟩ | ⟨_, q, _⟩ | ⟨_, q, _⟩
        · rw [fa_tab]; exact e
        · exact absurd q ht
        · exact absurd q ht
      have q2 : meE lw fw lm fm n ls f a b sl sh = faE lw fw lm fm n ls f ∧ meN lw fw lm fm n ls f a b sl sh = 0 := by
        rcases meE_cases lw fw lm fm n ls f a b sl sh with ⟨_, e⟩ | ⟨_, q, _⟩ | ⟨_, q, _⟩ | ⟨_, q, _⟩
        · rw [fa_tab]; exact e
        · exact absurd q ht
        · exact absurd q ht
        · exact absurd q ht
      exact fin (tq2 lw fw lm fm n ls f a b c d sl sh hth hs hf q1.1 q1.2.1 q1.2.2 q2.1 q2.2)
  · cases hv
end
theorem bounds_any {W : World} {H : Type} {enc : TypeId × Value → H} {base : Nat} {args : List Value} {ds : List (DataW H)} {p : List MemPlace} (hval : ∀ (j : Nat) t v, Tryz.f4.params[j]? = some t → args[j]? = some v → Value.okWide Tryz.prog W .any base t v)
    (hA : DataW.TrodAll enc Tryz.prog W 0 (fun _ => true) true Tryz.f4.params.toList args ds p) : Calls Tryz.prog 4 args.toArray W (fun e w' => e = .returned (.bool true) ∧ Below W.heap.size W w') := by
  rw [Tryz.params4] at hA hval
  obtain ⟨x0, a0, d0, _, _, _, rfl, rfl, rfl, t0, hA⟩ := trodAll_cons hA
  obtain ⟨x1, a1, d1, _, _, _, rfl, rfl, rfl, t1, hA⟩ := trodAll_cons hA
  obtain ⟨x2, a2, d2, _, _, _, rfl, rfl, rfl, t2, hA⟩ := trodAll_cons hA
  obtain ⟨x3, a3, d3, _, _, _, rfl, rfl, rfl, t3, hA⟩ := trodAll_cons hA
  obtain ⟨rfl, rfl, rfl⟩ := trodAll_nil hA
  obtain ⟨lw, fw, lm, fm, n, ls, f, r0⟩ := table_arg t0
  obtain ⟨lo1, hi1, r1⟩ := range_arg t1
  obtain ⟨lo2, hi2, r2⟩ := range_arg t2
  obtain ⟨lo3, hi3, r3⟩ := range_arg t3
  have hcf : cf valG [.agg 3 (T.setL .lf 0 [.fz true 0 (cellsI .i64 fw) lw 1, .fz true 0 (cellsI .i64 fm) lm 1, .fz true 0 (rowsI 0 1 ls f) n 1]), .agg 2 (T.setL .lf 0 [.int .i64 lo1, .int .i64 hi1]), .agg 2 (T.setL .lf 0 [.int .i64 lo2, .int .i64 hi2]), .agg 2 (T.setL .lf 0 [.int .i64 lo3, .int .i64 hi3])] (heap0 1) = some (true, .bool true) := by
    have e1 : okL [.agg 3 (T.setL .lf 0 [.fz true 0 (cellsI .i64 fw) lw 1, .fz true 0 (cellsI .i64 fm) lm 1, .fz true 0 (rowsI 0 1 ls f) n 1]), .agg 2 (T.setL .lf 0 [.int .i64 lo1, .int .i64 hi1]), .agg 2 (T.setL .lf 0 [.int .i64 lo2, .int .i64 hi2]), .agg 2 (T.setL .lf 0 [.int .i64 lo3, .int .i64 hi3])] = cond (cond (allI .i64 (cellsI .i64 fw) lw 1) (cond (allI .i64 (cellsI .i64 fm) lm 1) (cond (allR 0 (rowsI 0 1 ls f) n 1) true false) false) false) true false := by kernel_rfl
    have e2 : cf valG [.agg 3 (T.setL .lf 0 [.fz true 0 (cellsI .i64 fw) lw 1, .fz true 0 (cellsI .i64 fm) lm 1, .fz true 0 (rowsI 0 1 ls f) n 1]), .agg 2 (T.setL .lf 0 [.int .i64 lo1, .int .i64 hi1]), .agg 2 (T.setL .lf 0 [.int .i64 lo2, .int .i64 hi2]), .agg 2 (T.setL .lf 0 [.int .i64 lo3, .int .i64 hi3])] (heap0 1) = some (cond (okL [.agg 3 (T.setL .lf 0 [.fz true 0 (cellsI .i64 fw) lw 1, .fz true 0 (cellsI .i64 fm) lm 1, .fz true 0 (rowsI 0 1 ls f) n 1]), .agg 2 (T.setL .lf 0 [.int .i64 lo1, .int .i64 hi1]), .agg 2 (T.setL .lf 0 [.int .i64 lo2, .int .i64 hi2]), .agg 2 (T.setL .lf 0 [.int .i64 lo3, .int .i64 hi3])]) (true) false, .bool true) := by kernel_rfl
    rw [e2, e1, allI_cells, allI_cells, allR_rows]; rfl
  have hs : SpecCall Tryz.prog 4 [.agg 3 (T.setL .lf 0 [.fz true 0 (cellsI .i64 fw) lw 1, .fz true 0 (cellsI .i64 fm) lm 1, .fz true 0 (rowsI 0 1 ls f) n 1]), .agg 2 (T.setL .lf 0 [.int .i64 lo1, .int .i64 hi1]), .agg 2 (T.setL .lf 0 [.int .i64 lo2, .int .i64 hi2]), .agg 2 (T.setL .lf 0 [.int .i64 lo3, .int .i64 hi3])] (heap0 1) (.bool true) (bump (heap0 1)) := con_ok conG _ _ _ hcf
  have hal := al_cons r0 (al_cons r1 (al_cons r2 (al_cons r3 (show AL (renW W) [] ([] : List Value).toArray from AL.nil _))))
  exact (run_args hs hal).mono fun e w' ⟨x, R, h1, h2, h3⟩ => by cases h2; exact ⟨h1, h3⟩
theorem bounds_lifted (os : Os) (started : os.Started) (H : Type) (enc : TypeId × Value → H) :
    ReturnsInHanded {} Tryz.checked os 4 .any (Rows.tableBoundsSpec.pre6 enc Tryz.prog Tryz.f4 Rows.tableBoundsRow.domain false) (Rows.tableBoundsSpec.post enc Tryz.prog Tryz.f4 false true false false) := by
  refine returnsInHanded_of_change (C := Tryz.checked) own started (by kernel_rfl) Tryz.func4
    (ChangeSpec.witness6 (enc := enc) (C := Tryz.checked) false ⟨#[], #[.agg #[.slice none 0 0, .slice none 0 0, .slice none 0 0], .agg #[.int .i64 0, .int .i64 0], .agg #[.int .i64 0, .int .i64 0], .agg #[.int .i64 0, .int .i64 0]], []⟩ 8 (by kernel_rfl) (by kernel_rfl) (by kernel_rfl) (by kernel_rfl)) ?_
  intro W base args ds gs before hval0 hW hcnd _
  have hW' := hW
  obtain ⟨p, q, hA0, hV, rfl, hfz, hnd⟩ := hW
  have hval : ∀ (j : Nat) t v, Tryz.f4.params[j]? = some t → args.toList[j]? = some v → Value.okWide Tryz.prog W .any base t v := fun j t v h1 h2 => hval0 j t v h1 (by simpa using h2)
  have h := bounds_any (args := args.toList) hval hA0
  rw [show args.toList.toArray = args by simp] at h
  have hds : ∃ a b c d, ds = [a, b, c, d] := by
    rw [Tryz.params4] at hA0
    obtain ⟨x0, a0, d0, _, _, _, _, rfl, _, _, hA0⟩ := trodAll_cons hA0
    obtain ⟨x1, a1, d1, _, _, _, _, rfl, _, _, hA0⟩ := trodAll_cons hA0
    obtain ⟨x2, a2, d2, _, _, _, _, rfl, _, _, hA0⟩ := trodAll_cons hA0
    obtain ⟨x3, a3, d3, _, _, _, _, rfl, _, _, hA⟩ := trodAll_cons hA0
    obtain ⟨_, rfl, _⟩ := trodAll_nil hA
    exact ⟨_, _, _, _, rfl⟩
  obtain ⟨a, b, c, d, rfl⟩ := hds
  refine h.mono fun e W' ⟨he, hb⟩ => ?_
  exact ⟨_, he, Law.law_post laidOut (tb := 4) (by kernel_rfl) Tryz.underlying4 (fun t ht => by
    rw [Tryz.params4] at ht
    have ht : t ∈ [25, 38, 38, 38] := ht
    simp only [List.mem_cons, List.not_mem_nil, or_false] at ht
    rcases ht with rfl | rfl | rfl | rfl <;> exact ⟨by kernel_rfl, of_decide_eq_true (by kernel_rfl)⟩) rfl hW' rfl rfl rfl hb⟩
theorem tableBounds_holds : Rows.TableBoundsSaid :=
  OpenClaim.holds_of_wide 4 Tryz.f4 rfl rfl rfl rfl rfl rfl rfl ⟨rfl, rfl, rfl, rfl, rfl⟩ rfl rfl rfl rfl rfl (by kernel_rfl) Tryz.func4 (by kernel_rfl)
    (of_decide_eq_true (by kernel_rfl)) (by unfold Func.isWrapper; first | (rw [if_pos (by decide +kernel)]; kernel_rfl) | (rw [if_neg (by decide +kernel)]; exact ⟨rfl, rfl⟩))
    (fun os started H enc _ => bounds_lifted os started H enc)
end Go.Proofs.YtjikkfiohppnfaaGreat
