/-
  No cell of these rows narrows 'for every input' (looked for: loops, veiled, ifaces, maps, wideKeys, modest, calm, conditions, laid).
  DERIVED. THE GIVEN ROWS OF THIS SEAT. 3 by the template 'for every input the law returns true; each argument reads behind the call as it read before'; 0 by the template 'total and deterministic' (their statements: YtjlghnijlkgbaaaTotals.lean).
  GIVEN WITH THE SEED: the statements are not yours to turn. If you find one false, say at which input.
  Laid BY PROGRAM, IN A SANDBOX (cutbox-rows.mjs): the forced cells as the released guide's own fill.sh prints them over the translation 75b07a0b98fc6a05… (all of the seat's roots in one cut). By AI agents, Wed Nov 11 2026. No macro, syntax, notation, axiom, sorry.
-/
import Derived.Test.YtjlghnijlkgbaaaChecked
import GoSem.Claim
import GoSem.ClaimJoined
import GoSem.ClaimMapViews
import Derived.JoinedTies
import Derived.KernelRfl
namespace Go.Proofs.Ytjlghnijlkgbaaa
/- THE CELL 'sum', in the pinned program and in every row, IS THE sha256 OF THE DUMP (.gsa) THAT YtjlghnijlkgbaaaProg.lean LOADS. Nothing in Lean hashes anything: it is a label: what it is worth is what the hold of that sum in a sandbox is worth. -/
noncomputable def Try.pinned : Pinned := { name := "ytjlghnijlkgbaaa", sum := "75b07a0b98fc6a05df2918562a83f7a1a57e560a7591d34a5c31a77db27c2746", checked := Try.checked }
namespace Rows
def none {H : Type} : Left H := { results := [], args := [] }

/-- 'saccharumlaw04.ProofNames': WHATEVER THE INPUT: true; the input reads as it did. -/
def proofNamesSpec : ChangeSpec := { name := "proofNames", fn := fun _ => fun
  | [] => { results := [.lit (.bool true)], args := [] }
  | _ => none }
def proofNamesRow : OpenClaim := { program := "ytjlghnijlkgbaaa", sum := "75b07a0b98fc6a05df2918562a83f7a1a57e560a7591d34a5c31a77db27c2746", func := "saccharum/saccharumlaw04.ProofNames", spec := "proofNames", unfollowed := true, recurses := true, plainKeys := false, apart := false }
def ProofNamesSaid : Prop := proofNamesRow.holds Try.pinned (OpenSpec.ofChange proofNamesSpec)

/-- ITS FALSE NEIGHBOUR: 'it returns false'. Refute it at one input. -/
def proofNamesWrong : ChangeSpec := { name := "proofNames", fn := fun _ => fun
  | [] => { results := [.lit (.bool false)], args := [] }
  | _ => none }
def ProofNamesWrongFalsely : Prop := proofNamesRow.holds Try.pinned (OpenSpec.ofChange proofNamesWrong)

/-- 'saccharumlaw04.ProofApart': WHATEVER THE INPUT: true; the input reads as it did. -/
def proofApartSpec : ChangeSpec := { name := "proofApart", fn := fun _ => fun
  | [d] => { results := [.lit (.bool true)], args := [d] }
  | _ => none }
def proofApartRow : OpenClaim := { program := "ytjlghnijlkgbaaa", sum := "75b07a0b98fc6a05df2918562a83f7a1a57e560a7591d34a5c31a77db27c2746", func := "saccharum/saccharumlaw04.ProofApart", spec := "proofApart", unfollowed := true, recurses := true, plainKeys := false, apart := false }
def ProofApartSaid : Prop := proofApartRow.holds Try.pinned (OpenSpec.ofChange proofApartSpec)

/-- ITS FALSE NEIGHBOUR: 'it returns false'. Refute it at one input. -/
def proofApartWrong : ChangeSpec := { name := "proofApart", fn := fun _ => fun
  | [d] => { results := [.lit (.bool false)], args := [d] }
  | _ => none }
def ProofApartWrongFalsely : Prop := proofApartRow.holds Try.pinned (OpenSpec.ofChange proofApartWrong)

/-- 'saccharumtop.TopDipped': WHATEVER THE INPUT: true; the input reads as it did. -/
def topDippedSpec : ChangeSpec := { name := "topDipped", fn := fun _ => fun
  | [d1, d2] => { results := [.lit (.bool true)], args := [d1, d2] }
  | _ => none }
def topDippedRow : OpenClaim := { program := "ytjlghnijlkgbaaa", sum := "75b07a0b98fc6a05df2918562a83f7a1a57e560a7591d34a5c31a77db27c2746", func := "saccharum/saccharumtop.TopDipped", spec := "topDipped", unfollowed := true, recurses := true, plainKeys := false, apart := false }
def TopDippedSaid : Prop := topDippedRow.holds Try.pinned (OpenSpec.ofChange topDippedSpec)

/-- ITS FALSE NEIGHBOUR: 'it returns false'. Refute it at one input. -/
def topDippedWrong : ChangeSpec := { name := "topDipped", fn := fun _ => fun
  | [d1, d2] => { results := [.lit (.bool false)], args := [d1, d2] }
  | _ => none }
def TopDippedWrongFalsely : Prop := topDippedRow.holds Try.pinned (OpenSpec.ofChange topDippedWrong)

/- THE SECOND FORM. 'bulk': how many values and letters a reading holds, each counted each time it is reached (what is shared counts as often as it is met; a slice's spare places count too). A statement '..UptoSaid' is the law's where the arguments, and the package variables that the reading takes, are together of bulk at most 1048576: NARROWER than '..Said'. Prove '..Said' where nothing that the law and all that it calls make is longer than what came in: it says more and counts as full. Else prove '..UptoSaid'. A law counts once. -/
mutual
def uptoBulk {H : Type} : DataW H → Nat
  | .lit (.string bytes) => bytes.length + 1
  | .lit _ => 1
  | .nil => 1
  | .ptr d => uptoBulk d + 1
  | .slice elems spare => uptoBulkAll elems + uptoBulkAll spare + 1
  | .agg parts => uptoBulkAll parts + 1
  | .iface _ d => uptoBulk d + 1
  | .map entries => uptoBulkEntries entries + 1
  | .held _ => 1
def uptoBulkAll {H : Type} : List (DataW H) → Nat
  | [] => 0
  | d :: r => uptoBulk d + uptoBulkAll r
def uptoBulkEntries {H : Type} : List (Lit × DataW H) → Nat
  | [] => 0
  | x :: r => uptoBulkEntry x + uptoBulkEntries r
def uptoBulkEntry {H : Type} : Lit × DataW H → Nat
  | (.string bytes, d) => bytes.length + uptoBulk d + 1
  | (_, d) => uptoBulk d + 1
 end
def uptoSmall : (H : Type) → List (DataW H) → Bool := fun _ ds => decide (uptoBulkAll ds ≤ 1048576)
def OpenSpec.upto (s : _root_.Go.ChangeSpec) : _root_.Go.OpenSpec := { _root_.Go.OpenSpec.ofChange s with cond := some uptoSmall }

/-- 'saccharumlaw04.ProofNames', WHERE WHAT IT READS IS OF BULK AT MOST 1048576: true; the input reads as it did. -/
def proofNamesUptoRow : OpenClaim := { program := "ytjlghnijlkgbaaa", sum := "75b07a0b98fc6a05df2918562a83f7a1a57e560a7591d34a5c31a77db27c2746", func := "saccharum/saccharumlaw04.ProofNames", spec := "proofNames", unfollowed := true, recurses := true, plainKeys := false, apart := false, narrowed := true }
def ProofNamesUptoSaid : Prop := proofNamesUptoRow.holds Try.pinned (OpenSpec.upto proofNamesSpec)

/-- 'saccharumlaw04.ProofApart', WHERE WHAT IT READS IS OF BULK AT MOST 1048576: true; the input reads as it did. -/
def proofApartUptoRow : OpenClaim := { program := "ytjlghnijlkgbaaa", sum := "75b07a0b98fc6a05df2918562a83f7a1a57e560a7591d34a5c31a77db27c2746", func := "saccharum/saccharumlaw04.ProofApart", spec := "proofApart", unfollowed := true, recurses := true, plainKeys := false, apart := false, narrowed := true }
def ProofApartUptoSaid : Prop := proofApartUptoRow.holds Try.pinned (OpenSpec.upto proofApartSpec)

/-- 'saccharumtop.TopDipped', WHERE WHAT IT READS IS OF BULK AT MOST 1048576: true; the input reads as it did. -/
def topDippedUptoRow : OpenClaim := { program := "ytjlghnijlkgbaaa", sum := "75b07a0b98fc6a05df2918562a83f7a1a57e560a7591d34a5c31a77db27c2746", func := "saccharum/saccharumtop.TopDipped", spec := "topDipped", unfollowed := true, recurses := true, plainKeys := false, apart := false, narrowed := true }
def TopDippedUptoSaid : Prop := topDippedUptoRow.holds Try.pinned (OpenSpec.upto topDippedSpec)

end Rows
end Go.Proofs.Ytjlghnijlkgbaaa
