/- SpindleBack: for every input the law returns true: a density is in Mean of each division of See; each density in Mean of a division has this in See; if the spindle floats, one division can be read, and at most three. No condition. -/
import Derived.Test.YtlnglilhfcgliaaRows
import Derived.WalkKit
import Derived.Test.YtlnglilhfcgliaaYSpD3
import Derived.Test.YtlnglilhfcgliaaYSpG
import Derived.Test.YtlnglilhfcgliaaYSpArg
set_option linter.all false
set_option linter.unusedSimpArgs false
set_option linter.unusedVariables false
namespace Go.Proofs.Ytlnglilhfcgliaa
open Go Go.Ev Go.ChangeShapes Go.WideShapes Go.ChangeAt Go.RowKit
set_option maxRecDepth 1000000
noncomputable section
def val10 : Val := fun das => match das with
  | [.st [.i .i64 m, .i .i64 v, .i .i64 st, .i .i64 d, .i .i64 w, .sl 1 len f], .one (.i .u8 ld), .one (.i .u16 dn), .one (.i .u8 dv)] => some (decide (0 ≤ ld ∧ ld ≤ 255 ∧ 0 ≤ dn ∧ dn ≤ 65535 ∧ 0 ≤ dv ∧ dv ≤ 255), .bool true)
  | _ => none
theorem con10 : Con Try.prog 10 val10 := by
  intro das x hv
  unfold val10 at hv
  split at hv
  · rename_i m v st d w len f ld dn dv
    have hb := congrArg Prod.fst (Option.some.inj hv)
    have hv := congrArg Prod.snd (Option.some.inj hv)
    subst hv
    have h8 := of_decide_eq_true hb
    have fin : ∀ {h : HT}, vc (runD0 Try.prog XL 600 10 (enc [spD m v st d w len f, .one (.i .u8 ld), .one (.i .u16 dn), .one (.i .u8 dv)] 0) 1 (fun x => valP x (.bool true))) h →
        flatV (.bool true) = true ∧ ∃ v' H', SpecCall Try.prog 10 (enc [spD m v st d w len f, .one (.i .u8 ld), .one (.i .u16 dn), .one (.i .u8 dv)] 0) (heap0 2) v' H' ∧ valP v' (.bool true) := fun hvc =>
      con_run drawnC XL_ok rfl (das := [spD m v st d w len f, .one (.i .u8 ld), .one (.i .u16 dn), .one (.i .u8 dv)]) hvc
    by_cases hr : len ≤ 9 ∧ ckS m v st d w len f = 0
    · have hck := hr.2
      have hlen := (ck0 hck).1
      have hs := stem_of hck
      have hd : 1 ≤ d ∧ d ≤ 20 := by omega
      have hK := tmod_bd (a := ld) (b := ((len : Nat) : Int) + 1) (by omega) (by omega)
      have hD := tmod_bd (a := dn) (b := 2000) (by omega) (by omega)
      have hN := tmod_bd (a := dv) (b := d + 1) (by omega) (by omega)
      have hK' : 0 ≤ Int.tmod ld (((len : Nat) : Int) + 1) ∧ Int.tmod ld (((len : Nat) : Int) + 1) ≤ len := by omega
      have hN' : 0 ≤ Int.tmod dv (d + 1) ∧ Int.tmod dv (d + 1) ≤ d := by omega
      have hx : 1 ≤ 1 + Int.tmod dn 2000 ∧ 1 + Int.tmod dn 2000 ≤ 2000 := by omega
      have em := eM_valid (s := Int.tmod dv (d + 1)) hck hK' (by omega)
      refine fin (l10b m v st d w len f ld dn dv h8 hck hlen hd hK' hD hN' (nF_valid hck hK' hx).1 (eS_0_10 hck hK' hx) (fun e => (see_mean hck hK' hx e).1) (fun e q => (see_mean hck hK' hx e).2.1 _ (Int.le_refl _) q) (fun e q => (see_mean hck hK' hx e).2.1 _ (by omega) q) (fun e q => (see_mean hck hK' hx e).2.1 _ (by omega) q) ?_ ?_ ?_ ?_)
      · rcases em with ⟨q, _⟩ | ⟨q, _⟩
        · exact .inr q
        · exact .inl q
      · intro e7 e0
        by_cases q : Int.tmod dv (d + 1) < seeL m v st d w len f (Int.tmod ld (((len : Nat) : Int) + 1)) (1 + Int.tmod dn 2000) ∨ seeH m v st d w len f (Int.tmod ld (((len : Nat) : Int) + 1)) (1 + Int.tmod dn 2000) < Int.tmod dv (d + 1)
        · exact q
        · have := ((see_mean hck hK' hx e0).2.1 (Int.tmod dv (d + 1)) (by omega) (by omega)).1
          rw [e7] at this; cases this
      · intro e0
        rcases em with ⟨q, _⟩ | ⟨_, q, e3, _⟩
        · rw [e0] at q; cases q
        · rw [e3]; exact mean_see hck hK' hN' ⟨Int.le_refl _, q⟩
      · intro e0
        rcases em with ⟨q, _⟩ | ⟨_, q, _, e4⟩
        · rw [e0] at q; cases q
        · rw [e4]; exact mean_see hck hK' hN' ⟨q, Int.le_refl _⟩
    · exact fin (l10a m v st d w len f ld dn dv hr)
  · cases hv
end
theorem back_any {W : World} {H : Type} {enc : TypeId × Value → H} {base : Nat} {args : List Value} {ds : List (DataW H)} {p : List MemPlace} (hval : ∀ (j : Nat) t v, Try.f10.params[j]? = some t → args[j]? = some v → Value.okWide Try.prog W .any base t v)
    (hA : DataW.TrodAll enc Try.prog W 0 (fun _ => true) true Try.f10.params.toList args ds p) : Calls Try.prog 10 args.toArray W (fun e w' => e = .returned (.bool true) ∧ Below W.heap.size W w') := by
  rw [Try.params10] at hA hval
  obtain ⟨x0, a0, d0, _, _, _, rfl, rfl, rfl, t0, hA⟩ := trodAll_cons hA
  obtain ⟨x1, a1, d1, _, _, _, rfl, rfl, rfl, t1, hA⟩ := trodAll_cons hA
  obtain ⟨x2, a2, d2, _, _, _, rfl, rfl, rfl, t2, hA⟩ := trodAll_cons hA
  obtain ⟨x3, a3, d3, _, _, _, rfl, rfl, rfl, t3, hA⟩ := trodAll_cons hA
  obtain ⟨rfl, rfl, rfl⟩ := trodAll_nil hA
  obtain ⟨m, v, st, d, w, len, c, r0, hc⟩ := spindle_arg t0
  obtain ⟨n1, r1, b1⟩ := arg_int (P := Try.prog) (k := .u8) (by kernel_rfl) (hval 1 _ x1 rfl rfl) t1
  obtain ⟨n2, r2, b2⟩ := arg_int (P := Try.prog) (k := .u16) (by kernel_rfl) (hval 2 _ x2 rfl rfl) t2
  obtain ⟨n3, r3, b3⟩ := arg_int (P := Try.prog) (k := .u8) (by kernel_rfl) (hval 3 _ x3 rfl rfl) t3
  have hcf : cf val10 [.agg 6 (T.setL .lf 0 [.int .i64 m, .int .i64 v, .int .i64 st, .int .i64 d, .int .i64 w, .fz true 0 c len 1]), .int .u8 n1, .int .u16 n2, .int .u8 n3] (heap0 1) = some (true, .bool true) := by
    have q1 : IntKind.u8.min = 0 := by kernel_rfl
    have q2 : IntKind.u8.max = 255 := by kernel_rfl
    have q3 : IntKind.u16.min = 0 := by kernel_rfl
    have q4 : IntKind.u16.max = 65535 := by kernel_rfl
    rw [q1, q2] at b1 b3
    rw [q3, q4] at b2
    have hd : decide (0 ≤ n1 ∧ n1 ≤ 255 ∧ 0 ≤ n2 ∧ n2 ≤ 65535 ∧ 0 ≤ n3 ∧ n3 ≤ 255) = true := decide_eq_true (by omega)
    have e1 : okL [.agg 6 (T.setL .lf 0 [.int .i64 m, .int .i64 v, .int .i64 st, .int .i64 d, .int .i64 w, .fz true 0 c len 1]), .int .u8 n1, .int .u16 n2, .int .u8 n3] = cond (cond (allI .i64 c len 1) true false) true false := by kernel_rfl
    have e2 : cf val10 [.agg 6 (T.setL .lf 0 [.int .i64 m, .int .i64 v, .int .i64 st, .int .i64 d, .int .i64 w, .fz true 0 c len 1]), .int .u8 n1, .int .u16 n2, .int .u8 n3] (heap0 1) = some (cond (okL [.agg 6 (T.setL .lf 0 [.int .i64 m, .int .i64 v, .int .i64 st, .int .i64 d, .int .i64 w, .fz true 0 c len 1]), .int .u8 n1, .int .u16 n2, .int .u8 n3]) (decide (0 ≤ n1 ∧ n1 ≤ 255 ∧ 0 ≤ n2 ∧ n2 ≤ 65535 ∧ 0 ≤ n3 ∧ n3 ≤ 255)) false, .bool true) := by kernel_rfl
    rw [e2, e1, hc, hd]; rfl
  have hs : SpecCall Try.prog 10 [.agg 6 (T.setL .lf 0 [.int .i64 m, .int .i64 v, .int .i64 st, .int .i64 d, .int .i64 w, .fz true 0 c len 1]), .int .u8 n1, .int .u16 n2, .int .u8 n3] (heap0 1) (.bool true) (bump (heap0 1)) := con_ok con10 _ _ _ hcf
  have hal := al_cons r0 (al_cons r1 (al_cons r2 (al_cons r3 (show AL (renW W) [] ([] : List Value).toArray from AL.nil _))))
  exact (run_args hs hal).mono fun e w' ⟨x, R, h1, h2, h3⟩ => by cases h2; exact ⟨h1, h3⟩
theorem back_lifted (os : Os) (started : os.Started) (H : Type) (enc : TypeId × Value → H) :
    ReturnsInHanded {} Try.checked os 10 .any (Rows.spindleBackSpec.pre6 enc Try.prog Try.f10 Rows.spindleBackRow.domain false) (Rows.spindleBackSpec.post enc Try.prog Try.f10 false true false false) := by
  refine returnsInHanded_of_change (C := Try.checked) own started (by kernel_rfl) Try.func10
    (ChangeSpec.witness6 (enc := enc) (C := Try.checked) false ⟨#[], #[.agg #[.int .i64 0, .int .i64 0, .int .i64 0, .int .i64 0, .int .i64 0, .slice none 0 0], .int .u8 0, .int .u16 0, .int .u8 0], []⟩ 8 (by kernel_rfl) (by kernel_rfl) (by kernel_rfl) (by kernel_rfl)) ?_
  intro W base args ds gs before hval0 hW hcnd _
  have hW' := hW
  obtain ⟨p, q, hA0, hV, rfl, hfz, hnd⟩ := hW
  have hval : ∀ (j : Nat) t v, Try.f10.params[j]? = some t → args.toList[j]? = some v → Value.okWide Try.prog W .any base t v := fun j t v h1 h2 => hval0 j t v h1 (by simpa using h2)
  have h := back_any (args := args.toList) hval hA0
  rw [show args.toList.toArray = args by simp] at h
  have hds : ∃ a b c d, ds = [a, b, c, d] := by
    rw [Try.params10] at hA0
    obtain ⟨x0, a0, d0, _, _, _, _, rfl, _, _, hA⟩ := trodAll_cons hA0
    obtain ⟨x1, a1, d1, _, _, _, _, rfl, _, _, hA⟩ := trodAll_cons hA
    obtain ⟨x2, a2, d2, _, _, _, _, rfl, _, _, hA⟩ := trodAll_cons hA
    obtain ⟨x3, a3, d3, _, _, _, _, rfl, _, _, hA⟩ := trodAll_cons hA
    obtain ⟨_, rfl, _⟩ := trodAll_nil hA
    exact ⟨_, _, _, _, rfl⟩
  obtain ⟨a, b, c, d, rfl⟩ := hds
  refine h.mono fun e W' ⟨he, hb⟩ => ?_
  exact ⟨_, he, Law.law_post laidOut (tb := 4) (by kernel_rfl) Try.underlying4 (fun t ht => by
    rw [Try.params10] at ht
    have ht : t ∈ [24, 5, 77, 5] := ht
    simp only [List.mem_cons, List.not_mem_nil, or_false] at ht
    rcases ht with rfl | rfl | rfl | rfl <;> exact ⟨by kernel_rfl, of_decide_eq_true (by kernel_rfl)⟩) rfl hW' rfl rfl rfl hb⟩
theorem spindleBack_holds : Rows.SpindleBackSaid :=
  OpenClaim.holds_of_wide 10 Try.f10 rfl rfl rfl rfl rfl rfl rfl ⟨rfl, rfl, rfl, rfl, rfl⟩ rfl rfl rfl rfl rfl (by kernel_rfl) Try.func10 (by kernel_rfl)
    (of_decide_eq_true (by kernel_rfl)) (by unfold Func.isWrapper; first | (rw [if_pos (by decide +kernel)]; kernel_rfl) | (rw [if_neg (by decide +kernel)]; exact ⟨rfl, rfl⟩))
    (fun os started H enc _ => back_lifted os started H enc)
#print axioms spindleBack_holds
end Go.Proofs.Ytlnglilhfcgliaa
