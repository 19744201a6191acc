/- Stage 8: the closed calls that the chapter's examples come to: what they are asked. -/
import Derived.Test.YtajlhdcpkfmhkaaProg
import Derived.Test.YtajlhdcpkfmhkaaYEf
set_option linter.all false
set_option linter.unusedSimpArgs false
set_option linter.unusedVariables false
namespace Go.Proofs.Ytajlhdcpkfmhkaa
namespace SE
open Go Go.Ev
set_option maxRecDepth 1000000
noncomputable section
theorem mixed : Try.prog.follows .mixedOrders = true := by kernel_rfl
theorem drawn : DrawnSound Try.prog := drawn_sound mixed
def vi (a : Int) : V := .int .i64 a
def vb (a : Bool) : V := .bool a
def va (n : Nat) (l : List V) : V := .agg n (T.setL .lf 0 l)
def vrow (l : List V) : Nat × T V := (lenV l, T.setL .lf 0 l)
def rowI (l : List Int) : Nat × T V := vrow (l.map vi)
def lkI (l : List Int) : Nat → Int := List.rec (motive := fun _ => Nat → Int) (fun _ => 0) (fun x _ ih i => match i with | 0 => x | i + 1 => ih i) l
def fz (e : Nat) (l : List Int) (n : Nat) : V := .fz true 0 (fun i j => vi (lkI l (Nat.add (Nat.mul i e) j))) n e
def saR (more : List V) : List (Nat × T V) := [vrow [vb false, vb false, vb true], rowI [0, 0, 1, 1, 2, 0, 1, 2, 3, 3, 1, 0, 1, 2, 2], vrow (List.append [vi 0, vi 2, vb true, vi 1, vi 4, vb true] more)]
def saV (n : Nat) : V := va 7 [vi 2, vi 3, vi 4, vi 0, .slice 0 0 3 1, .slice 1 0 3 5, .slice 2 0 n 3]
def s2 : V := saV 2
def s3 : V := saV 3
def r2 : List (Nat × T V) := saR []
def r3 : List (Nat × T V) := saR [vi 0, vi 2, vb false]
def eK2 : Ent := ⟨15, [s2], r2, vi 0⟩
def eK3 : Ent := ⟨15, [s3], r3, vi 0⟩
def eH1 : Ent := ⟨5, [s2, vi 0, vi 1], r2, .tup [fz 1 [0, 1] 2, vi 0]⟩
def eH4 : Ent := ⟨5, [s2, vi 0, vi 4], r2, .tup [fz 1 [2] 1, vi 0]⟩
def eO0 : Ent := ⟨7, [s2, vi 0], r2, .tup [fz 1 [2] 1, vi 0]⟩
def eO1 : Ent := ⟨7, [s2, vi 1], r2, .tup [.nilSlice, vi 0]⟩
def eV2 : Ent := ⟨43, [s2], r2, .tup [fz 1 [3, 2] 2, vi 0]⟩
def eA2 : Ent := ⟨13, [s2], r2, .tup [vi 3, vi 0]⟩
def eL2 : Ent := ⟨44, [s2], r2, .tup [fz 1 [0, 0] 2, vi 0]⟩
def eF2 : Ent := ⟨12, [s2], r2, .tup [vi 0, vi 7]⟩
def eF3 : Ent := ⟨12, [s3], r3, .tup [vi 5, vi 0]⟩
def eX2 : Ent := ⟨8, [s2], r2, .tup [.nilSlice, vi 0]⟩
def eX3 : Ent := ⟨8, [s3], r3, .tup [fz 1 [3] 1, vi 0]⟩
def eO3 : Ent := ⟨7, [s3, vi 1], r3, .tup [.nilSlice, vi 9]⟩
def eA3 : Ent := ⟨13, [s3], r3, .tup [vi 0, vi 9]⟩
def eAc : Ent := ⟨84, [], [], va 8 [.func 91 [] [], vb false, .func 92 [] [], vb true, .func 93 [] [], vb false, .func 94 [] [], vb true]⟩
theorem rAc : entRun Try.prog noExt 3000 eAc = true := by kernel_rfl
theorem rK2 : entRun Try.prog noExt 3000 eK2 = true := by kernel_rfl
theorem rK3 : entRun Try.prog noExt 3000 eK3 = true := by kernel_rfl
def eks : List Ent := [eAc, eK2, eK3]
theorem eks_ok : EntsOK Try.prog eks := .cons (fun _ _ _ h => ent_sound drawn noExt_ok rAc h) <| .cons (fun _ _ _ h => ent_sound drawn noExt_ok rK2 h) <| .cons (fun _ _ _ h => ent_sound drawn noExt_ok rK3 h) .nil
end
end SE
end Go.Proofs.Ytajlhdcpkfmhkaa
