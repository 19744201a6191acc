/- SpindleSees: for every input the law returns true: the error of any spindle, whether it floats with any load in any density, and the divisions that can be read, are those of the reference. No condition. -/
import Derived.Test.YtlnglilhfcgliaaRows
import Derived.WalkKit
import Derived.Test.YtlnglilhfcgliaaYSpE4
import Derived.Test.YtlnglilhfcgliaaYSpE5
import Derived.Test.YtlnglilhfcgliaaYSpArg
set_option linter.all false
set_option linter.unusedSimpArgs false
set_option linter.unusedVariables false
namespace Go.Proofs.Ytlnglilhfcgliaa
open Go Go.Ev Go.ChangeShapes Go.WideShapes Go.ChangeAt Go.RowKit
set_option maxRecDepth 1000000
noncomputable section
def val3 : Val := fun das => match das with
  | [.st [.i .i64 m, .i .i64 v, .i .i64 st, .i .i64 d, .i .i64 w, .sl 1 len f], .one (.i .i64 load), .one (.i .i64 dens)] => some (true, .bool true)
  | _ => none
set_option maxHeartbeats 400000 in
theorem con3 : Con Try.prog 3 val3 := by
  intro das x hv
  unfold val3 at hv
  split at hv
  · rename_i m v st d w len f load dens
    have hv := congrArg Prod.snd (Option.some.inj hv)
    subst hv
    refine ⟨rfl, ?_⟩
    have fin : ∀ {h : HT}, vc (runD0 Try.prog XS 400 3 (enc [spD m v st d w len f, .one (.i .i64 load), .one (.i .i64 dens)] 0) 1 (fun x => valP x (.bool true))) h →
        ∃ v' H', SpecCall Try.prog 3 (enc [spD m v st d w len f, .one (.i .i64 load), .one (.i .i64 dens)] 0) (heap0 2) v' H' ∧ valP v' (.bool true) := fun hvc =>
      (con_run (v := .bool true) drawnC XS_ok rfl (das := [spD m v st d w len f, .one (.i .i64 load), .one (.i .i64 dens)]) hvc).2
    by_cases h9 : len ≤ 9
    · rcases eF_cases m v st d w len f load dens with ⟨h, e1, e2⟩ | ⟨h, hr, e1, e2⟩ | ⟨h, hr, e1, e2⟩
      · rcases eS_cases m v st d w len f load dens with ⟨q, e3, e4, e5⟩ | ⟨q, _⟩ | ⟨q, _⟩
        · exact fin (l3b m v st d w len f load dens h9 h e1 e2 (by rw [e3, e1]) e4 e5)
        · rw [e1] at q; exact absurd q h
        · rw [e1] at q; exact absurd q h
      · rcases eS_cases m v st d w len f load dens with ⟨q, e3, e4, e5⟩ | ⟨q, _⟩ | ⟨q, _⟩
        · exact fin (l3c m v st d w len f load dens h (ck0 h).1 hr e1 e2 (by rw [e3, e1]) e4 e5)
        · rw [e1] at q; cases q
        · rw [e1] at q; cases q
      · have hlen := (ck0 h).1
        have ho := ck0_sOk h hr.1 hr.2.1
        have hi : 0 ≤ load ∧ load ≤ len := ⟨hr.1, hr.2.1⟩
        have hx : 1 ≤ dens ∧ dens ≤ 2000 := ⟨hr.2.2.1, hr.2.2.2⟩
        have hrf := rf_flo h hi hx
        rcases eS_cases m v st d w len f load dens with ⟨q, _⟩ | ⟨q, hn, e3, e4, e5⟩ | ⟨q, hn, e3', e4, e5⟩
        · exact absurd e1 q
        · exact fin (l3d m v st d w len f load dens h hlen hr ho e1 hrf hn e3 e4 e5)
        · have hs := stem_of h
          have hd : 1 ≤ d ∧ d ≤ 20 := by omega
          have hN : (readN d : Int) = d + 1 := by unfold readN; omega
          obtain ⟨p1, p2, p3, p4⟩ := eS0 h hi hx e3'
          have hf : rfI (1000 * mI m f load) (dens * v) (dens * (v + d * st)) = 0 := by rw [← hrf]; exact hn
          have hse := sees_eq (fl_of h hi hx) p3 p4
          have hp : sub [1,1,1,1,1,1,1,1,1,1,0,1,0] (bodyOf Try.prog 3) = .loop b3 := by kernel_rfl
          have hfn : fnOk Try.prog 3 (enc [spD m v st d w len f, .one (.i .i64 load), .one (.i .i64 dens)] 0) = true := by kernel_rfl
          have hnt : ntOf Try.prog 3 = 115 := by kernel_rfl
          have hL : JL Try.prog (base3 m v st d w len f load dens) lt3 115 100 none (.loop b3) (s3 load dens (eS m v st d w len f load dens) 99 (-1) 0) (x3 (eS m v st d w len f load dens) (lwL (mI m f load) v st w dens (readN d)) (hgH (mI m f load) v st w dens (readN d))) := by
            refine loop_rule (lv := (x3 (eS m v st d w len f load dens) (lwL (mI m f load) v st w dens (readN d)) (hgH (mI m f load) v st w dens (readN d)))) (body := b3) (fun _ e => by cases e) (readN d) (fun k => s3 load dens (eS m v st d w len f load dens) (lwL (mI m f load) v st w dens k) (hgH (mI m f load) v st w dens k) k) (fun k hk => ?_) ?_
            · cases hh : ftB (mI m f load) v st w dens k with
              | true =>
                have q1 : lwL (mI m f load) v st w dens (k + 1) = min (lwL (mI m f load) v st w dens k) k := by show cond _ _ _ = _; rw [hh]; rfl
                have q2 : hgH (mI m f load) v st w dens (k + 1) = max (hgH (mI m f load) v st w dens k) k := by show cond _ _ _ = _; rw [hh]; rfl
                rw [q1, q2]
                exact round_of drawnC XS_ok (r3a m v st d w len f load dens k _ _ _ h hlen hr ho hd (by omega) hf hh) (by kernel_rfl) (by kernel_rfl)
              | false =>
                have q1 : lwL (mI m f load) v st w dens (k + 1) = lwL (mI m f load) v st w dens k := by show cond _ _ _ = _; rw [hh]; rfl
                have q2 : hgH (mI m f load) v st w dens (k + 1) = hgH (mI m f load) v st w dens k := by show cond _ _ _ = _; rw [hh]; rfl
                rw [q1, q2]
                exact round_of drawnC XS_ok (r3b m v st d w len f load dens k _ _ _ h hlen hr ho hd (by omega) hf hh) (by kernel_rfl) (by kernel_rfl)
            · exact round_of drawnC XS_ok (r3c m v st d w len f load dens (readN d) _ _ _ (by omega)) (by kernel_rfl) (by kernel_rfl)
          rw [← hp] at hL
          exact con_loopD (P := Try.prog) (X := XS) (N := 400) (g := 3) (das := [spD m v st d w len f, .one (.i .i64 load), .one (.i .i64 dens)]) (v := .bool true) (p := [1,1,1,1,1,1,1,1,1,1,0,1,0]) (lt := lt3) (n := 115) (M := 100) (lv := (x3 (eS m v st d w len f load dens) (lwL (mI m f load) v st w dens (readN d)) (hgH (mI m f load) v st w dens (readN d)))) (base := base3 m v st d w len f load dens) (s0 := s3 load dens (eS m v st d w len f load dens) 99 (-1) 0) drawnC XS_ok hfn hnt (e3 m v st d w len f load dens h hlen hr ho e1 hn hf) hL (f3 m v st d w len f load dens _ _ _ e3' (by rw [p1]; exact hse.1) (by rw [p2]; exact hse.2))
    · exact fin (l3a m v st d w len f load dens h9)
  · cases hv
end
theorem sees_any {W : World} {H : Type} {enc : TypeId × Value → H} {base : Nat} {args : List Value} {ds : List (DataW H)} {p : List MemPlace} (hval : ∀ (j : Nat) t v, Try.f3.params[j]? = some t → args[j]? = some v → Value.okWide Try.prog W .any base t v)
    (hA : DataW.TrodAll enc Try.prog W 0 (fun _ => true) true Try.f3.params.toList args ds p) : Calls Try.prog 3 args.toArray W (fun e w' => e = .returned (.bool true) ∧ Below W.heap.size W w') := by
  rw [Try.params3] at hA hval
  obtain ⟨x0, a0, d0, _, _, _, rfl, rfl, rfl, t0, hA⟩ := trodAll_cons hA
  obtain ⟨x1, a1, d1, _, _, _, rfl, rfl, rfl, t1, hA⟩ := trodAll_cons hA
  obtain ⟨x2, a2, d2, _, _, _, rfl, rfl, rfl, t2, hA⟩ := trodAll_cons hA
  obtain ⟨rfl, rfl, rfl⟩ := trodAll_nil hA
  obtain ⟨m, v, st, d, w, len, c, r0, hc⟩ := spindle_arg t0
  obtain ⟨n1, r1, _⟩ := arg_int (P := Try.prog) (k := .i64) (by kernel_rfl) (hval 1 _ x1 rfl rfl) t1
  obtain ⟨n2, r2, _⟩ := arg_int (P := Try.prog) (k := .i64) (by kernel_rfl) (hval 2 _ x2 rfl rfl) t2
  have hcf : cf val3 [.agg 6 (T.setL .lf 0 [.int .i64 m, .int .i64 v, .int .i64 st, .int .i64 d, .int .i64 w, .fz true 0 c len 1]), .int .i64 n1, .int .i64 n2] (heap0 1) = some (true, .bool true) := by
    have e1 : okL [.agg 6 (T.setL .lf 0 [.int .i64 m, .int .i64 v, .int .i64 st, .int .i64 d, .int .i64 w, .fz true 0 c len 1]), .int .i64 n1, .int .i64 n2] = cond (cond (allI .i64 c len 1) true false) true false := by kernel_rfl
    have e2 : cf val3 [.agg 6 (T.setL .lf 0 [.int .i64 m, .int .i64 v, .int .i64 st, .int .i64 d, .int .i64 w, .fz true 0 c len 1]), .int .i64 n1, .int .i64 n2] (heap0 1) = some (cond (okL [.agg 6 (T.setL .lf 0 [.int .i64 m, .int .i64 v, .int .i64 st, .int .i64 d, .int .i64 w, .fz true 0 c len 1]), .int .i64 n1, .int .i64 n2]) true false, .bool true) := by kernel_rfl
    rw [e2, e1, hc]; rfl
  have hs : SpecCall Try.prog 3 [.agg 6 (T.setL .lf 0 [.int .i64 m, .int .i64 v, .int .i64 st, .int .i64 d, .int .i64 w, .fz true 0 c len 1]), .int .i64 n1, .int .i64 n2] (heap0 1) (.bool true) (bump (heap0 1)) := con_ok con3 _ _ _ hcf
  have hal := al_cons r0 (al_cons r1 (al_cons r2 (show AL (renW W) [] ([] : List Value).toArray from AL.nil _)))
  exact (run_args hs hal).mono fun e w' ⟨x, R, h1, h2, h3⟩ => by cases h2; exact ⟨h1, h3⟩
theorem sees_lifted (os : Os) (started : os.Started) (H : Type) (enc : TypeId × Value → H) :
    ReturnsInHanded {} Try.checked os 3 .any (Rows.spindleSeesSpec.pre6 enc Try.prog Try.f3 Rows.spindleSeesRow.domain false) (Rows.spindleSeesSpec.post enc Try.prog Try.f3 false true false false) := by
  refine returnsInHanded_of_change (C := Try.checked) own started (by kernel_rfl) Try.func3
    (ChangeSpec.witness6 (enc := enc) (C := Try.checked) false ⟨#[], #[.agg #[.int .i64 0, .int .i64 0, .int .i64 0, .int .i64 0, .int .i64 0, .slice none 0 0], .int .i64 0, .int .i64 0], []⟩ 8 (by kernel_rfl) (by kernel_rfl) (by kernel_rfl) (by kernel_rfl)) ?_
  intro W base args ds gs before hval0 hW hcnd _
  have hW' := hW
  obtain ⟨p, q, hA0, hV, rfl, hfz, hnd⟩ := hW
  have hval : ∀ (j : Nat) t v, Try.f3.params[j]? = some t → args.toList[j]? = some v → Value.okWide Try.prog W .any base t v := fun j t v h1 h2 => hval0 j t v h1 (by simpa using h2)
  have h := sees_any (args := args.toList) hval hA0
  rw [show args.toList.toArray = args by simp] at h
  have hds : ∃ a b c, ds = [a, b, c] := by
    rw [Try.params3] at hA0
    obtain ⟨x0, a0, d0, _, _, _, _, rfl, _, _, hA⟩ := trodAll_cons hA0
    obtain ⟨x1, a1, d1, _, _, _, _, rfl, _, _, hA⟩ := trodAll_cons hA
    obtain ⟨x2, a2, d2, _, _, _, _, rfl, _, _, hA⟩ := trodAll_cons hA
    obtain ⟨_, rfl, _⟩ := trodAll_nil hA
    exact ⟨_, _, _, rfl⟩
  obtain ⟨a, b, c, rfl⟩ := hds
  refine h.mono fun e W' ⟨he, hb⟩ => ?_
  exact ⟨_, he, Law.law_post laidOut (tb := 4) (by kernel_rfl) Try.underlying4 (fun t ht => by
    rw [Try.params3] at ht
    have ht : t ∈ [24, 3, 3] := ht
    simp only [List.mem_cons, List.not_mem_nil, or_false] at ht
    rcases ht with rfl | rfl | rfl <;> exact ⟨by kernel_rfl, of_decide_eq_true (by kernel_rfl)⟩) rfl hW' rfl rfl rfl hb⟩
theorem spindleSees_holds : Rows.SpindleSeesSaid :=
  OpenClaim.holds_of_wide 3 Try.f3 rfl rfl rfl rfl rfl rfl rfl ⟨rfl, rfl, rfl, rfl, rfl⟩ rfl rfl rfl rfl rfl (by kernel_rfl) Try.func3 (by kernel_rfl)
    (of_decide_eq_true (by kernel_rfl)) (by unfold Func.isWrapper; first | (rw [if_pos (by decide +kernel)]; kernel_rfl) | (rw [if_neg (by decide +kernel)]; exact ⟨rfl, rfl⟩))
    (fun os started H enc _ => sees_lifted os started H enc)
#print axioms spindleSees_holds
end Go.Proofs.Ytlnglilhfcgliaa
