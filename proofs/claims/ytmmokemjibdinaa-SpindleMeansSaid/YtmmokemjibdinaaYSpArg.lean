/- Stage 1: a spindle that is read from the world. -/
import Derived.Test.YtmmokemjibdinaaRows
import Derived.Test.YtmmokemjibdinaaYEd
set_option linter.all false
set_option linter.unusedSimpArgs false
set_option linter.unusedVariables false
namespace Go.Proofs.Ytmmokemjibdinaa
open Go Go.Ev Go.ChangeShapes Go.WideShapes Go.ChangeAt Go.RowKit
set_option maxRecDepth 1000000
theorem own : ownKnob Try.prog.godebug = none := by kernel_rfl
theorem laidOut : laidOutB Try.prog = true := by kernel_rfl
/-- a spindle, as it is read -/
theorem spindle_arg {W : World} {H : Type} {enc : TypeId × Value → H} {sp : Nat → Bool} {x : Value} {d : DataW H} {ps : List MemPlace} (h : DataW.Trod enc Try.prog W 0 sp true 24 x d ps) :
    ∃ m v st d w len c, VR (renW W) (.agg 6 (T.setL .lf 0 [.int .i64 m, .int .i64 v, .int .i64 st, .int .i64 d, .int .i64 w, .fz true 0 c len 1])) x ∧ allI .i64 c len 1 = true := by
  have ht : flatTy Try.prog 8 24 = [3, 3, 3, 3, 3, 22] := by kernel_rfl
  obtain ⟨fs, hu⟩ : ∃ fs, Try.prog.underlying 24 = some (.struct fs) := ⟨_, Try.underlying24⟩
  obtain ⟨vs, h1, h2, h3⟩ := arg_struct (P := Try.prog) (t := 24) (n := 6) (by kernel_rfl) hu (by kernel_rfl) (by rw [ht]; rfl) (by decide) h
  match vs, h1, h2, h3 with
  | [v0, v1, v2, v3, v4, v5], _, h2, h3 =>
    have i3 : Try.prog.underlying 3 = some (.int .i64) := Try.underlying3
    obtain ⟨m, rfl, _⟩ := ShC_int i3 (h3 0 (by simp) 3 (by rw [ht]; rfl))
    obtain ⟨v, rfl, _⟩ := ShC_int i3 (h3 1 (by simp) 3 (by rw [ht]; rfl))
    obtain ⟨st, rfl, _⟩ := ShC_int i3 (h3 2 (by simp) 3 (by rw [ht]; rfl))
    obtain ⟨d, rfl, _⟩ := ShC_int i3 (h3 3 (by simp) 3 (by rw [ht]; rfl))
    obtain ⟨w, rfl, _⟩ := ShC_int i3 (h3 4 (by simp) 3 (by rw [ht]; rfl))
    obtain ⟨c, len, rfl, hc, _⟩ := ShC_ints (q := 3) (n := 1) Try.underlying22 (by kernel_rfl) (by kernel_rfl) i3 (h3 5 (by simp) 22 (by rw [ht]; rfl))
    exact ⟨m, v, st, d, w, len, c, h2, hc⟩
end Go.Proofs.Ytmmokemjibdinaa
