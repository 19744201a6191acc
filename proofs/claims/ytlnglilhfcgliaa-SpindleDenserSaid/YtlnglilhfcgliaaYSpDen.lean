/- SpindleDenser: for every input the law returns true: in a denser liquid both ends of what can be read do not increase, with a heavier load they do not decrease. No condition. -/
import Derived.Test.YtlnglilhfcgliaaRows
import Derived.WalkKit
import Derived.Test.YtlnglilhfcgliaaYSpD2
import Derived.Test.YtlnglilhfcgliaaYSpF
import Derived.Test.YtlnglilhfcgliaaYEd
set_option linter.all false
set_option linter.unusedSimpArgs false
set_option linter.unusedVariables false
namespace Go.Proofs.Ytlnglilhfcgliaa
open Go Go.Ev Go.ChangeShapes Go.WideShapes Go.ChangeAt Go.RowKit
set_option maxRecDepth 1000000
noncomputable section
def val11 : Val := fun das => match das with
  | [.st [.i .i64 m, .i .i64 v, .i .i64 st, .i .i64 d, .i .i64 w, .sl 1 len f], .one (.i .u8 one), .one (.i .u8 two), .one (.i .u16 dn), .one (.i .u16 mr)] => some (decide (0 ≤ one ∧ one ≤ 255 ∧ 0 ≤ two ∧ two ≤ 255 ∧ 0 ≤ dn ∧ dn ≤ 65535 ∧ 0 ≤ mr ∧ mr ≤ 65535), .bool true)
  | _ => none
theorem con11 : Con Try.prog 11 val11 := by
  intro das x hv
  unfold val11 at hv
  split at hv
  · rename_i m v st d w len f one two dn mr
    have hb := congrArg Prod.fst (Option.some.inj hv)
    have hv := congrArg Prod.snd (Option.some.inj hv)
    subst hv
    have h8 := of_decide_eq_true hb
    have fin : ∀ {h : HT}, vc (runD0 Try.prog XL 400 11 (enc [spD m v st d w len f, .one (.i .u8 one), .one (.i .u8 two), .one (.i .u16 dn), .one (.i .u16 mr)] 0) 1 (fun x => valP x (.bool true))) h →
        flatV (.bool true) = true ∧ ∃ v' H', SpecCall Try.prog 11 (enc [spD m v st d w len f, .one (.i .u8 one), .one (.i .u8 two), .one (.i .u16 dn), .one (.i .u16 mr)] 0) (heap0 2) v' H' ∧ valP v' (.bool true) := fun hvc =>
      con_run drawnC XL_ok rfl (das := [spD m v st d w len f, .one (.i .u8 one), .one (.i .u8 two), .one (.i .u16 dn), .one (.i .u16 mr)]) hvc
    by_cases hr : len ≤ 9 ∧ ckS m v st d w len f = 0
    · have hck := hr.2
      have hlen := (ck0 hck).1
      have hI := tmod_bd (a := one) (b := ((len : Nat) : Int) + 1) (by omega) (by omega)
      have hK := tmod_bd (a := two) (b := ((len : Nat) : Int) + 1) (by omega) (by omega)
      have hD := tmod_bd (a := dn) (b := 2000) (by omega) (by omega)
      have hM := tmod_bd (a := mr) (b := 300) (by omega) (by omega)
      have hI' : 0 ≤ Int.tmod one (((len : Nat) : Int) + 1) ∧ Int.tmod one (((len : Nat) : Int) + 1) ≤ len := by omega
      have hK' : 0 ≤ Int.tmod two (((len : Nat) : Int) + 1) ∧ Int.tmod two (((len : Nat) : Int) + 1) ≤ len := by omega
      have mi := mass_of hck hI'
      have mk := mass_of hck hK'
      by_cases hw : mI m f (Int.tmod one (((len : Nat) : Int) + 1)) ≤ mI m f (Int.tmod two (((len : Nat) : Int) + 1))
      · obtain ⟨e1, e2, e3, m1, m2, m3, m4, m5, m6⟩ := facts (x := 1 + Int.tmod dn 2000) (u := min 2000 (1 + Int.tmod dn 2000 + Int.tmod mr 300)) hck hI' hK' (by omega) (by omega) hw
        exact fin (l11b m v st d w len f one two dn mr h8 hck hlen hI' hK' hD hM mi.1 mk.1 mi.2 mk.2 hw e1 e2 e3 m1 m2 m3 m4 m5 m6)
      · obtain ⟨e1, e2, e3, m1, m2, m3, m4, m5, m6⟩ := facts (x := 1 + Int.tmod dn 2000) (u := min 2000 (1 + Int.tmod dn 2000 + Int.tmod mr 300)) hck hK' hI' (by omega) (by omega) (by omega)
        exact fin (l11c m v st d w len f one two dn mr h8 hck hlen hI' hK' hD hM mi.1 mk.1 mi.2 mk.2 (by omega) e1 e2 e3 m1 m2 m3 m4 m5 m6)
    · exact fin (l11a m v st d w len f one two dn mr hr)
  · cases hv
end
theorem own : ownKnob Try.prog.godebug = none := by kernel_rfl
theorem laidOut : laidOutB Try.prog = true := by kernel_rfl
/-- a spindle, as it is read -/
theorem spindle_arg {W : World} {H : Type} {enc : TypeId × Value → H} {sp : Nat → Bool} {x : Value} {d : DataW H} {ps : List MemPlace} (h : DataW.Trod enc Try.prog W 0 sp true 24 x d ps) :
    ∃ m v st d w len c, VR (renW W) (.agg 6 (T.setL .lf 0 [.int .i64 m, .int .i64 v, .int .i64 st, .int .i64 d, .int .i64 w, .fz true 0 c len 1])) x ∧ allI .i64 c len 1 = true := by
  have ht : flatTy Try.prog 8 24 = [3, 3, 3, 3, 3, 22] := by kernel_rfl
  obtain ⟨fs, hu⟩ : ∃ fs, Try.prog.underlying 24 = some (.struct fs) := ⟨_, Try.underlying24⟩
  obtain ⟨vs, h1, h2, h3⟩ := arg_struct (P := Try.prog) (t := 24) (n := 6) (by kernel_rfl) hu (by kernel_rfl) (by rw [ht]; rfl) (by decide) h
  match vs, h1, h2, h3 with
  | [v0, v1, v2, v3, v4, v5], _, h2, h3 =>
    have i3 : Try.prog.underlying 3 = some (.int .i64) := Try.underlying3
    obtain ⟨m, rfl, _⟩ := ShC_int i3 (h3 0 (by simp) 3 (by rw [ht]; rfl))
    obtain ⟨v, rfl, _⟩ := ShC_int i3 (h3 1 (by simp) 3 (by rw [ht]; rfl))
    obtain ⟨st, rfl, _⟩ := ShC_int i3 (h3 2 (by simp) 3 (by rw [ht]; rfl))
    obtain ⟨d, rfl, _⟩ := ShC_int i3 (h3 3 (by simp) 3 (by rw [ht]; rfl))
    obtain ⟨w, rfl, _⟩ := ShC_int i3 (h3 4 (by simp) 3 (by rw [ht]; rfl))
    obtain ⟨c, len, rfl, hc, _⟩ := ShC_ints (q := 3) (n := 1) Try.underlying22 (by kernel_rfl) (by kernel_rfl) i3 (h3 5 (by simp) 22 (by rw [ht]; rfl))
    exact ⟨m, v, st, d, w, len, c, h2, hc⟩
theorem denser_any {W : World} {H : Type} {enc : TypeId × Value → H} {base : Nat} {args : List Value} {ds : List (DataW H)} {p : List MemPlace} (hval : ∀ (j : Nat) t v, Try.f11.params[j]? = some t → args[j]? = some v → Value.okWide Try.prog W .any base t v)
    (hA : DataW.TrodAll enc Try.prog W 0 (fun _ => true) true Try.f11.params.toList args ds p) : Calls Try.prog 11 args.toArray W (fun e w' => e = .returned (.bool true) ∧ Below W.heap.size W w') := by
  rw [Try.params11] at hA hval
  obtain ⟨x0, a0, d0, _, _, _, rfl, rfl, rfl, t0, hA⟩ := trodAll_cons hA
  obtain ⟨x1, a1, d1, _, _, _, rfl, rfl, rfl, t1, hA⟩ := trodAll_cons hA
  obtain ⟨x2, a2, d2, _, _, _, rfl, rfl, rfl, t2, hA⟩ := trodAll_cons hA
  obtain ⟨x3, a3, d3, _, _, _, rfl, rfl, rfl, t3, hA⟩ := trodAll_cons hA
  obtain ⟨x4, a4, d4, _, _, _, rfl, rfl, rfl, t4, hA⟩ := trodAll_cons hA
  obtain ⟨rfl, rfl, rfl⟩ := trodAll_nil hA
  obtain ⟨m, v, st, d, w, len, c, r0, hc⟩ := spindle_arg t0
  obtain ⟨n1, r1, b1⟩ := arg_int (P := Try.prog) (k := .u8) (by kernel_rfl) (hval 1 _ x1 rfl rfl) t1
  obtain ⟨n2, r2, b2⟩ := arg_int (P := Try.prog) (k := .u8) (by kernel_rfl) (hval 2 _ x2 rfl rfl) t2
  obtain ⟨n3, r3, b3⟩ := arg_int (P := Try.prog) (k := .u16) (by kernel_rfl) (hval 3 _ x3 rfl rfl) t3
  obtain ⟨n4, r4, b4⟩ := arg_int (P := Try.prog) (k := .u16) (by kernel_rfl) (hval 4 _ x4 rfl rfl) t4
  have hcf : cf val11 [.agg 6 (T.setL .lf 0 [.int .i64 m, .int .i64 v, .int .i64 st, .int .i64 d, .int .i64 w, .fz true 0 c len 1]), .int .u8 n1, .int .u8 n2, .int .u16 n3, .int .u16 n4] (heap0 1) = some (true, .bool true) := by
    have q1 : IntKind.u8.min = 0 := by kernel_rfl
    have q2 : IntKind.u8.max = 255 := by kernel_rfl
    have q3 : IntKind.u16.min = 0 := by kernel_rfl
    have q4 : IntKind.u16.max = 65535 := by kernel_rfl
    rw [q1, q2] at b1 b2
    rw [q3, q4] at b3 b4
    have hd : decide (0 ≤ n1 ∧ n1 ≤ 255 ∧ 0 ≤ n2 ∧ n2 ≤ 255 ∧ 0 ≤ n3 ∧ n3 ≤ 65535 ∧ 0 ≤ n4 ∧ n4 ≤ 65535) = true := decide_eq_true (by omega)
    have e1 : okL [.agg 6 (T.setL .lf 0 [.int .i64 m, .int .i64 v, .int .i64 st, .int .i64 d, .int .i64 w, .fz true 0 c len 1]), .int .u8 n1, .int .u8 n2, .int .u16 n3, .int .u16 n4] = cond (cond (allI .i64 c len 1) true false) true false := by kernel_rfl
    have e2 : cf val11 [.agg 6 (T.setL .lf 0 [.int .i64 m, .int .i64 v, .int .i64 st, .int .i64 d, .int .i64 w, .fz true 0 c len 1]), .int .u8 n1, .int .u8 n2, .int .u16 n3, .int .u16 n4] (heap0 1) = some (cond (okL [.agg 6 (T.setL .lf 0 [.int .i64 m, .int .i64 v, .int .i64 st, .int .i64 d, .int .i64 w, .fz true 0 c len 1]), .int .u8 n1, .int .u8 n2, .int .u16 n3, .int .u16 n4]) (decide (0 ≤ n1 ∧ n1 ≤ 255 ∧ 0 ≤ n2 ∧ n2 ≤ 255 ∧ 0 ≤ n3 ∧ n3 ≤ 65535 ∧ 0 ≤ n4 ∧ n4 ≤ 65535)) false, .bool true) := by kernel_rfl
    rw [e2, e1, hc, hd]; rfl
  have hs : SpecCall Try.prog 11 [.agg 6 (T.setL .lf 0 [.int .i64 m, .int .i64 v, .int .i64 st, .int .i64 d, .int .i64 w, .fz true 0 c len 1]), .int .u8 n1, .int .u8 n2, .int .u16 n3, .int .u16 n4] (heap0 1) (.bool true) (bump (heap0 1)) := con_ok con11 _ _ _ hcf
  have hal := al_cons r0 (al_cons r1 (al_cons r2 (al_cons r3 (al_cons r4 (show AL (renW W) [] ([] : List Value).toArray from AL.nil _)))))
  exact (run_args hs hal).mono fun e w' ⟨x, R, h1, h2, h3⟩ => by cases h2; exact ⟨h1, h3⟩
theorem denser_lifted (os : Os) (started : os.Started) (H : Type) (enc : TypeId × Value → H) :
    ReturnsInHanded {} Try.checked os 11 .any (Rows.spindleDenserSpec.pre6 enc Try.prog Try.f11 Rows.spindleDenserRow.domain false) (Rows.spindleDenserSpec.post enc Try.prog Try.f11 false true false false) := by
  refine returnsInHanded_of_change (C := Try.checked) own started (by kernel_rfl) Try.func11
    (ChangeSpec.witness6 (enc := enc) (C := Try.checked) false ⟨#[], #[.agg #[.int .i64 0, .int .i64 0, .int .i64 0, .int .i64 0, .int .i64 0, .slice none 0 0], .int .u8 0, .int .u8 0, .int .u16 0, .int .u16 0], []⟩ 8 (by kernel_rfl) (by kernel_rfl) (by kernel_rfl) (by kernel_rfl)) ?_
  intro W base args ds gs before hval0 hW hcnd _
  have hW' := hW
  obtain ⟨p, q, hA0, hV, rfl, hfz, hnd⟩ := hW
  have hval : ∀ (j : Nat) t v, Try.f11.params[j]? = some t → args.toList[j]? = some v → Value.okWide Try.prog W .any base t v := fun j t v h1 h2 => hval0 j t v h1 (by simpa using h2)
  have h := denser_any (args := args.toList) hval hA0
  rw [show args.toList.toArray = args by simp] at h
  have hds : ∃ a b c d e, ds = [a, b, c, d, e] := by
    rw [Try.params11] at hA0
    obtain ⟨x0, a0, d0, _, _, _, _, rfl, _, _, hA⟩ := trodAll_cons hA0
    obtain ⟨x1, a1, d1, _, _, _, _, rfl, _, _, hA⟩ := trodAll_cons hA
    obtain ⟨x2, a2, d2, _, _, _, _, rfl, _, _, hA⟩ := trodAll_cons hA
    obtain ⟨x3, a3, d3, _, _, _, _, rfl, _, _, hA⟩ := trodAll_cons hA
    obtain ⟨x4, a4, d4, _, _, _, _, rfl, _, _, hA⟩ := trodAll_cons hA
    obtain ⟨_, rfl, _⟩ := trodAll_nil hA
    exact ⟨_, _, _, _, _, rfl⟩
  obtain ⟨a, b, c, d, e, rfl⟩ := hds
  refine h.mono fun e W' ⟨he, hb⟩ => ?_
  exact ⟨_, he, Law.law_post laidOut (tb := 4) (by kernel_rfl) Try.underlying4 (fun t ht => by
    rw [Try.params11] at ht
    have ht : t ∈ [24, 5, 5, 77, 77] := ht
    simp only [List.mem_cons, List.not_mem_nil, or_false] at ht
    rcases ht with rfl | rfl | rfl | rfl | rfl <;> exact ⟨by kernel_rfl, of_decide_eq_true (by kernel_rfl)⟩) rfl hW' rfl rfl rfl hb⟩
theorem spindleDenser_holds : Rows.SpindleDenserSaid :=
  OpenClaim.holds_of_wide 11 Try.f11 rfl rfl rfl rfl rfl rfl rfl ⟨rfl, rfl, rfl, rfl, rfl⟩ rfl rfl rfl rfl rfl (by kernel_rfl) Try.func11 (by kernel_rfl)
    (of_decide_eq_true (by kernel_rfl)) (by unfold Func.isWrapper; first | (rw [if_pos (by decide +kernel)]; kernel_rfl) | (rw [if_neg (by decide +kernel)]; exact ⟨rfl, rfl⟩))
    (fun os started H enc _ => denser_lifted os started H enc)
#print axioms spindleDenser_holds
end Go.Proofs.Ytlnglilhfcgliaa
