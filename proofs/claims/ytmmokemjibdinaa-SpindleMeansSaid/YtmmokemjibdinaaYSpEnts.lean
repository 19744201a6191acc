/- Stage 1: the closed calls that the chapter's first examples come to. -/
import Derived.Test.YtmmokemjibdinaaProg
import Derived.Test.YtmmokemjibdinaaYEc
set_option linter.all false
set_option linter.unusedSimpArgs false
set_option linter.unusedVariables false
namespace Go.Proofs.Ytmmokemjibdinaa
open Go Go.Ev
set_option maxRecDepth 1000000
noncomputable section
theorem mixed : Try.prog.follows .mixedOrders = true := by kernel_rfl
theorem drawn : DrawnSound Try.prog := drawn_sound mixed
def vi (a : Int) : V := .int .i64 a
def va (n : Nat) (l : List V) : V := .agg n (T.setL .lf 0 l)
def vr (a b : Int) : V := va 2 [vi a, vi b]
def vrow (l : List V) : Nat × T V := (lenV l, T.setL .lf 0 l)
def bw : V := va 6 [vi 900, vi 800, vi 20, vi 10, vi 10, .slice 0 0 2 1]
def brow : Nat × T V := vrow [vi 100, vi 200]
def eL (k n : Int) : Ent := ⟨82, [bw, vi k, vr 990 1011], [brow], vi n⟩
def eC (l : List V) (b : Bool) : Ent := ⟨80, [bw, .slice 1 0 (lenV l) 1, vr 950 1300], [brow, vrow l], .bool b⟩
def eN (b : Bool) : Ent := ⟨80, [bw, .nilSlice, vr 950 1300], [brow], .bool b⟩
theorem l0 : entRun Try.prog noExt 3000 (eL 0 22) = true := by kernel_rfl
theorem l1 : entRun Try.prog noExt 3000 (eL 1 11) = true := by kernel_rfl
theorem l2 : entRun Try.prog noExt 3000 (eL 2 22) = true := by kernel_rfl
theorem cn : entRun Try.prog noExt 3000 (eN false) = true := by kernel_rfl
theorem c0 : entRun Try.prog noExt 3000 (eC [vi 0] false) = true := by kernel_rfl
theorem c1 : entRun Try.prog noExt 3000 (eC [vi 1] false) = true := by kernel_rfl
theorem c2 : entRun Try.prog noExt 3000 (eC [vi 2] false) = true := by kernel_rfl
theorem c01 : entRun Try.prog noExt 3000 (eC [vi 0, vi 1] false) = true := by kernel_rfl
theorem c02 : entRun Try.prog noExt 3000 (eC [vi 0, vi 2] true) = true := by kernel_rfl
def ents : List Ent := [eL 0 22, eL 1 11, eL 2 22, eN false, eC [vi 0] false, eC [vi 1] false, eC [vi 2] false, eC [vi 0, vi 1] false, eC [vi 0, vi 2] true]
theorem ents_ok : EntsOK Try.prog ents :=
  .cons (fun _ _ _ h => ent_sound drawn noExt_ok l0 h) <| .cons (fun _ _ _ h => ent_sound drawn noExt_ok l1 h) <| .cons (fun _ _ _ h => ent_sound drawn noExt_ok l2 h) <|
  .cons (fun _ _ _ h => ent_sound drawn noExt_ok cn h) <| .cons (fun _ _ _ h => ent_sound drawn noExt_ok c0 h) <| .cons (fun _ _ _ h => ent_sound drawn noExt_ok c1 h) <|
  .cons (fun _ _ _ h => ent_sound drawn noExt_ok c2 h) <| .cons (fun _ _ _ h => ent_sound drawn noExt_ok c01 h) <| .cons (fun _ _ _ h => ent_sound drawn noExt_ok c02 h) .nil
end
end Go.Proofs.Ytmmokemjibdinaa
