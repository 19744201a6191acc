/- Stage 6: the closed calls that the chapter's examples come to: what they are asked. -/
import Derived.Test.YtmcdjginlikbcaaYEf
import Derived.Test.YtmcdjginlikbcaaYWoF2
set_option linter.all false
set_option linter.unusedSimpArgs false
set_option linter.unusedVariables false
namespace Go.Proofs.Ytmcdjginlikbcaa
namespace WE
open Go Go.Ev WO
set_option maxRecDepth 1000000
noncomputable section
theorem mixed : Try.prog.follows .mixedOrders = true := by kernel_rfl
theorem drawn : DrawnSound Try.prog := drawn_sound mixed
def vi (a : Int) : V := .int .i64 a
def va (n : Nat) (l : List V) : V := .agg n (T.setL .lf 0 l)
def vrow (l : List V) : Nat × T V := (lenV l, T.setL .lf 0 l)
def rowI (l : List Int) : Nat × T V := vrow (l.map vi)
def lkI (l : List Int) : Nat → Int := List.rec (motive := fun _ => Nat → Int) (fun _ => 0) (fun x _ ih i => match i with | 0 => x | i + 1 => ih i) l
def fz (e : Nat) (l : List Int) (n : Nat) : V := .fz true 0 (fun i j => vi (lkI l (Nat.add (Nat.mul i e) j))) n e
def bw : V := va 2 [.slice 0 0 2 5, .slice 1 0 3 5]
def bwR (most : Int) : List (Nat × T V) := [rowI [10, most, 60, 60, 20, 5, 5, 30, 30, 12], rowI [0, 0, 1, 4, 4, 2, 1, 1, 1, 2, 1, 0, 0, 2, 2]]
def rdR : List (Nat × T V) := List.append (bwR 11) [rowI [1, 7, 7, 40, 50, 0, 9, 9, 0, 99]]
def eK0 : Ent := ⟨17, [bw], bwR 10, vi 0⟩
def eK1 : Ent := ⟨17, [bw], bwR 11, vi 0⟩
def eF : Ent := ⟨6, [bw, vi 8, vi 45], bwR 10, .tup [fz 5 [0, 0, 1, 4, 4, 1, 0, 0, 2, 2] 2, vi 0]⟩
def eS : Ent := ⟨6, [bw, vi 60, vi 60], bwR 10, .tup [.nilSlice, vi 10]⟩
def eB : Ent := ⟨16, [bw], bwR 11, .tup [fz 6 [8, 9, 360, 420, 45, 47, 7, 8, 390, 390, 49, 56] 2, vi 0]⟩
def eL : Ent := ⟨8, [bw, .slice 2 0 2 5], rdR, .tup [fz 1 [0] 1, vi 0]⟩
def eL0 : Ent := ⟨8, [bw, .nilSlice], bwR 11, .tup [.nilSlice, vi 0]⟩
def wk : V := va 3 [.slice 0 0 2 5, .slice 1 0 3 5, .slice 2 0 7 2]
def eP (a b c d : Int) : Ent := ⟨58, [wk, va 8 [vi a, vi b, vi c, vi d, vi 0, vi 0, vi 0, vi 0], va 2 [vi 60, vi 60], vi 1], List.append (bwR 10) [rowI [10, 10, 5, 5, 60, 60, 30, 30, 4, 4, 1, 2, 2, 2]], .tup [.nilSlice, .bool false]⟩
def XC : Ext := conX [(66, cfM valAf), (70, cf valGr)] false
theorem XC_ok : ExtOK Try.prog XC := conX_ok (allCon_cons (con_okM conAf) <| allCon_cons (con_ok conGr) allCon_nil)
theorem rK0 : entRun Try.prog noExt 3000 eK0 = true := by kernel_rfl
theorem rK1 : entRun Try.prog noExt 3000 eK1 = true := by kernel_rfl
def eks : List Ent := [eK0, eK1]
theorem eks_ok : EntsOK Try.prog eks := .cons (fun _ _ _ h => ent_sound drawn noExt_ok rK0 h) <| .cons (fun _ _ _ h => ent_sound drawn noExt_ok rK1 h) .nil
theorem allApp {es es' : List Ent} (h : EntsOK Try.prog es) (h' : EntsOK Try.prog es') : EntsOK Try.prog (List.append es es') := fun e he => by
  have he : e ∈ es ++ es' := he
  rcases List.mem_append.1 he with q | q
  · exact h e q
  · exact h' e q
def XK : Ext := orX (entX eks) XC
theorem XK_ok : ExtOK Try.prog XK := orX_ok (entX_ok eks_ok) XC_ok
end
end WE
end Go.Proofs.Ytmcdjginlikbcaa
