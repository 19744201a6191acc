/- Stage 4: the closed calls that the chapter's examples come to. -/
import Derived.Test.YtlhhcbahoicedaaProg
import Derived.Test.YtlhhcbahoicedaaYEc
set_option linter.all false
set_option linter.unusedSimpArgs false
set_option linter.unusedVariables false
namespace Go.Proofs.Ytlhhcbahoicedaa
open Go Go.Ev
set_option maxRecDepth 1000000
noncomputable section
theorem mixed : Try.prog.follows .mixedOrders = true := by kernel_rfl
theorem drawn : DrawnSound Try.prog := drawn_sound mixed
def vi (a : Int) : V := .int .i64 a
def va (n : Nat) (l : List V) : V := .agg n (T.setL .lf 0 l)
def vr (a b : Int) : V := va 2 [vi a, vi b]
def vrow (l : List V) : Nat × T V := (lenV l, T.setL .lf 0 l)
def rowI (l : List Int) : Nat × T V := vrow (l.map vi)
/-- the table's rows; the casks' row behind them -/
def tRows : List (Nat × T V) := [rowI [10, 14, 20], rowI [0, 10, 20], vrow [.slice 3 0 3 1, .slice 4 0 3 1, .slice 5 0 3 1], rowI [900, 1260, 1800], rowI [810, 1179, 1728], rowI [720, 1080, 1530]]
def tArg : V := va 3 [.slice 0 0 3 1, .slice 1 0 3 1, .slice 2 0 3 1]
def eT : Ent := ⟨48, [tArg], tRows, vi 0⟩
def eB (a b c d lo hi : Int) : Ent := ⟨63, [tArg, vr a b, vr c d], tRows, .tup [vr lo hi, vi 0]⟩
theorem rT : entRun Try.prog noExt 3000 eT = true := by kernel_rfl
theorem rB0 : entRun Try.prog noExt 3000 (eB 10 10 10 10 1260 1260) = true := by kernel_rfl
theorem rB1 : entRun Try.prog noExt 3000 (eB 14 14 0 1 810 847) = true := by kernel_rfl
theorem rB2 : entRun Try.prog noExt 3000 (eB 20 20 20 20 1530 1530) = true := by kernel_rfl
/-- the examples' store is valid -/
def sRows : List (Nat × T V) := tRows ++ [rowI [50, 10, 10, 10, 10, 30, 14, 14, 0, 1, 20, 20, 20, 20, 20]]
def sArg : V := va 5 [.slice 0 0 3 1, .slice 1 0 3 1, .slice 2 0 3 1, vi 120, .slice 6 0 3 5]
def eK : Ent := ⟨18, [sArg], sRows, vi 0⟩
theorem rK : entRun Try.prog noExt 3000 eK = true := by kernel_rfl
def ents : List Ent := [eT, eK, eB 10 10 10 10 1260 1260, eB 14 14 0 1 810 847, eB 20 20 20 20 1530 1530]
theorem ents_ok : EntsOK Try.prog ents :=
  .cons (fun _ _ _ h => ent_sound drawn noExt_ok rT h) <| .cons (fun _ _ _ h => ent_sound drawn noExt_ok rK h) <| .cons (fun _ _ _ h => ent_sound drawn noExt_ok rB0 h) <| .cons (fun _ _ _ h => ent_sound drawn noExt_ok rB1 h) <| .cons (fun _ _ _ h => ent_sound drawn noExt_ok rB2 h) .nil
end
end Go.Proofs.Ytlhhcbahoicedaa
