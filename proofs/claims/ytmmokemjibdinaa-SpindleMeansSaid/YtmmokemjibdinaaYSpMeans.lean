/- SpindleMeans: for every input the law returns true: the densities that fit anything that is seen with any load are those of the reference, and there are no others between them. No condition. -/
import Derived.Test.YtmmokemjibdinaaRows
import Derived.WalkKit
import Derived.Test.YtmmokemjibdinaaYSpM4
import Derived.Test.YtmmokemjibdinaaYSpArg
set_option linter.all false
set_option linter.unusedSimpArgs false
set_option linter.unusedVariables false
namespace Go.Proofs.Ytmmokemjibdinaa
open Go Go.Ev Go.ChangeShapes Go.WideShapes Go.ChangeAt Go.RowKit
set_option maxRecDepth 1000000
noncomputable section
def val4 : Val := fun das => match das with
  | [.st [.i .i64 m, .i .i64 v, .i .i64 st, .i .i64 d, .i .i64 w, .sl 1 len f], .one (.i .i64 load), .one (.i .i64 s)] => some (true, .bool true)
  | _ => none
set_option maxHeartbeats 400000 in
theorem con4 : Con Try.prog 4 val4 := by
  intro das x hv
  unfold val4 at hv
  split at hv
  · rename_i m v st d w len f load s
    have hv := congrArg Prod.snd (Option.some.inj hv)
    subst hv
    have fin : ∀ {h : HT}, vc (runD0 Try.prog XM 400 4 (enc [spD m v st d w len f, .one (.i .i64 load), .one (.i .i64 s)] 0) 1 (fun x => valP x (.bool true))) h →
        flatV (.bool true) = true ∧ ∃ v' H', SpecCall Try.prog 4 (enc [spD m v st d w len f, .one (.i .i64 load), .one (.i .i64 s)] 0) (heap0 2) v' H' ∧ valP v' (.bool true) := fun hvc =>
      con_run (v := .bool true) drawnC XM_ok rfl (das := [spD m v st d w len f, .one (.i .i64 load), .one (.i .i64 s)]) hvc
    by_cases h9 : len ≤ 9
    · rcases eM_cases m v st d w len f load s with ⟨h, e1, e2, e3⟩ | ⟨h, hr, e1, e2, e3⟩ | ⟨h, hr, he, e1, e2, e3⟩ | ⟨h, hr, he, e1, e2, e3⟩
      · exact fin (l4b m v st d w len f load s h9 h e1 e2 e3)
      · have hs := stem_of h
        exact fin (l4c m v st d w len f load s (by omega) (ck0 h).1 h hr e1 e2 e3)
      · have hs := stem_of h
        have ho := ck0_sOk h hr.1 hr.2.1
        have ha := all_eq h ⟨hr.1, hr.2.1⟩ ⟨hr.2.2.1, hr.2.2.2⟩
        refine fin (l4d m v st d w len f load s (by omega) (ck0 h).1 h hr ho ?_ e1 e2 e3)
        rcases ha with ⟨_, q⟩ | ⟨q, _⟩
        · exact q
        · omega
      · have hs := stem_of h
        have ho := ck0_sOk h hr.1 hr.2.1
        have ha := all_eq h ⟨hr.1, hr.2.1⟩ ⟨hr.2.2.1, hr.2.2.2⟩
        have bd := mn_all (μ := mI m f load) (v := v) (st := st) (d := d) (w := w) (s := s)
        rcases ha with ⟨q, _⟩ | ⟨_, q1, q2, q3⟩
        · omega
        · have q1' : aN (mI m f load) v st d w s (Int.toNat (2000 + (d - d))) = mnH (mI m f load) v st d w s - mnL (mI m f load) v st d w s + 1 := q1
          have q2' : aL (mI m f load) v st d w s (Int.toNat (2000 + (d - d))) = mnL (mI m f load) v st d w s := q2
          have q3' : aH (mI m f load) v st d w s (Int.toNat (2000 + (d - d))) = mnH (mI m f load) v st d w s := q3
          exact fin (l4e m v st d w len f load s (by omega) (ck0 h).1 h hr ho (by rw [q1']; omega) (by rw [q2']; omega) (by rw [q3']; omega) (by rw [q1', q2', q3']) e1 (by rw [q2', e2]) (by rw [q3', e3]))
    · exact fin (l4a m v st d w len f load s h9)
  · cases hv
end
theorem means_any {W : World} {H : Type} {enc : TypeId × Value → H} {base : Nat} {args : List Value} {ds : List (DataW H)} {p : List MemPlace} (hval : ∀ (j : Nat) t v, Try.f4.params[j]? = some t → args[j]? = some v → Value.okWide Try.prog W .any base t v)
    (hA : DataW.TrodAll enc Try.prog W 0 (fun _ => true) true Try.f4.params.toList args ds p) : Calls Try.prog 4 args.toArray W (fun e w' => e = .returned (.bool true) ∧ Below W.heap.size W w') := by
  rw [Try.params4] at hA hval
  obtain ⟨x0, a0, d0, _, _, _, rfl, rfl, rfl, t0, hA⟩ := trodAll_cons hA
  obtain ⟨x1, a1, d1, _, _, _, rfl, rfl, rfl, t1, hA⟩ := trodAll_cons hA
  obtain ⟨x2, a2, d2, _, _, _, rfl, rfl, rfl, t2, hA⟩ := trodAll_cons hA
  obtain ⟨rfl, rfl, rfl⟩ := trodAll_nil hA
  obtain ⟨m, v, st, d, w, len, c, r0, hc⟩ := spindle_arg t0
  obtain ⟨n1, r1, b1⟩ := arg_int (P := Try.prog) (k := .i64) (by kernel_rfl) (hval 1 _ x1 rfl rfl) t1
  obtain ⟨n2, r2, b2⟩ := arg_int (P := Try.prog) (k := .i64) (by kernel_rfl) (hval 2 _ x2 rfl rfl) t2
  have hcf : cf val4 [.agg 6 (T.setL .lf 0 [.int .i64 m, .int .i64 v, .int .i64 st, .int .i64 d, .int .i64 w, .fz true 0 c len 1]), .int .i64 n1, .int .i64 n2] (heap0 1) = some (true, .bool true) := by
    have e1 : okL [.agg 6 (T.setL .lf 0 [.int .i64 m, .int .i64 v, .int .i64 st, .int .i64 d, .int .i64 w, .fz true 0 c len 1]), .int .i64 n1, .int .i64 n2] = cond (cond (allI .i64 c len 1) true false) true false := by kernel_rfl
    have e2 : cf val4 [.agg 6 (T.setL .lf 0 [.int .i64 m, .int .i64 v, .int .i64 st, .int .i64 d, .int .i64 w, .fz true 0 c len 1]), .int .i64 n1, .int .i64 n2] (heap0 1) = some (cond (okL [.agg 6 (T.setL .lf 0 [.int .i64 m, .int .i64 v, .int .i64 st, .int .i64 d, .int .i64 w, .fz true 0 c len 1]), .int .i64 n1, .int .i64 n2]) (true) false, .bool true) := by kernel_rfl
    rw [e2, e1, hc]; rfl
  have hs : SpecCall Try.prog 4 [.agg 6 (T.setL .lf 0 [.int .i64 m, .int .i64 v, .int .i64 st, .int .i64 d, .int .i64 w, .fz true 0 c len 1]), .int .i64 n1, .int .i64 n2] (heap0 1) (.bool true) (bump (heap0 1)) := con_ok con4 _ _ _ hcf
  have hal := al_cons r0 (al_cons r1 (al_cons r2 (show AL (renW W) [] ([] : List Value).toArray from AL.nil _)))
  exact (run_args hs hal).mono fun e w' ⟨x, R, h1, h2, h3⟩ => by cases h2; exact ⟨h1, h3⟩
theorem means_lifted (os : Os) (started : os.Started) (H : Type) (enc : TypeId × Value → H) :
    ReturnsInHanded {} Try.checked os 4 .any (Rows.spindleMeansSpec.pre6 enc Try.prog Try.f4 Rows.spindleMeansRow.domain false) (Rows.spindleMeansSpec.post enc Try.prog Try.f4 false true false false) := by
  refine returnsInHanded_of_change (C := Try.checked) own started (by kernel_rfl) Try.func4
    (ChangeSpec.witness6 (enc := enc) (C := Try.checked) false ⟨#[], #[.agg #[.int .i64 0, .int .i64 0, .int .i64 0, .int .i64 0, .int .i64 0, .slice none 0 0], .int .i64 0, .int .i64 0], []⟩ 8 (by kernel_rfl) (by kernel_rfl) (by kernel_rfl) (by kernel_rfl)) ?_
  intro W base args ds gs before hval0 hW hcnd _
  have hW' := hW
  obtain ⟨p, q, hA0, hV, rfl, hfz, hnd⟩ := hW
  have hval : ∀ (j : Nat) t v, Try.f4.params[j]? = some t → args.toList[j]? = some v → Value.okWide Try.prog W .any base t v := fun j t v h1 h2 => hval0 j t v h1 (by simpa using h2)
  have h := means_any (args := args.toList) hval hA0
  rw [show args.toList.toArray = args by simp] at h
  have hds : ∃ a b c, ds = [a, b, c] := by
    rw [Try.params4] at hA0
    obtain ⟨x0, a0, d0, _, _, _, _, rfl, _, _, hA0⟩ := trodAll_cons hA0
    obtain ⟨x1, a1, d1, _, _, _, _, rfl, _, _, hA0⟩ := trodAll_cons hA0
    obtain ⟨x2, a2, d2, _, _, _, _, rfl, _, _, hA⟩ := trodAll_cons hA0
    obtain ⟨_, rfl, _⟩ := trodAll_nil hA
    exact ⟨_, _, _, rfl⟩
  obtain ⟨a, b, c, rfl⟩ := hds
  refine h.mono fun e W' ⟨he, hb⟩ => ?_
  exact ⟨_, he, Law.law_post laidOut (tb := 4) (by kernel_rfl) Try.underlying4 (fun t ht => by
    rw [Try.params4] at ht
    have ht : t ∈ [24, 3, 3] := ht
    simp only [List.mem_cons, List.not_mem_nil, or_false] at ht
    rcases ht with rfl | rfl | rfl <;> exact ⟨by kernel_rfl, of_decide_eq_true (by kernel_rfl)⟩) rfl hW' rfl rfl rfl hb⟩
theorem spindleMeans_holds : Rows.SpindleMeansSaid :=
  OpenClaim.holds_of_wide 4 Try.f4 rfl rfl rfl rfl rfl rfl rfl ⟨rfl, rfl, rfl, rfl, rfl⟩ rfl rfl rfl rfl rfl (by kernel_rfl) Try.func4 (by kernel_rfl)
    (of_decide_eq_true (by kernel_rfl)) (by unfold Func.isWrapper; first | (rw [if_pos (by decide +kernel)]; kernel_rfl) | (rw [if_neg (by decide +kernel)]; exact ⟨rfl, rfl⟩))
    (fun os started H enc _ => means_lifted os started H enc)
#print axioms spindleMeans_holds
end Go.Proofs.Ytmmokemjibdinaa
