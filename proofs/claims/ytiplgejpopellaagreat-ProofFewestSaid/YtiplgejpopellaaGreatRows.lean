/-
  No cell of these rows narrows 'for every input' (looked for: loops, veiled, ifaces, maps, wideKeys, modest, calm, conditions, laid).
  DERIVED. THE GIVEN ROWS OF THIS SEAT. 3 by the template 'for every input the law returns true; each argument reads behind the call as it read before'; 0 by the template 'total and deterministic' (their statements: YtiplgejpopellaaGreatTotals.lean).
  GIVEN WITH THE SEED: the statements are not yours to turn. If you find one false, say at which input.
  Laid BY PROGRAM, IN A SANDBOX (cutbox-rows.mjs): the forced cells as the released guide's own fill.sh prints them over the translation f6693bba8ae2da29… (all of the seat's roots in one cut). By AI agents, Wed Nov 11 2026. No macro, syntax, notation, axiom, sorry.
-/
import Derived.Test.YtiplgejpopellaaGreatChecked
import GoSem.Claim
import GoSem.ClaimJoined
import GoSem.ClaimMapViews
import Derived.JoinedTies
import Derived.KernelRfl
namespace Go.Proofs.YtiplgejpopellaaGreat
/- THE CELL 'sum', in the pinned program and in every row, IS THE sha256 OF THE DUMP (.gsa) THAT YtiplgejpopellaaGreatProg.lean LOADS. Nothing in Lean hashes anything: it is a label: what it is worth is what the hold of that sum in a sandbox is worth. -/
noncomputable def Tryz.pinned : Pinned := { name := "ytiplgejpopellaagreat", sum := "f6693bba8ae2da29ea8550808652544adda6b3fbf255ed1a29b7ab47b596b5e9", checked := Tryz.checked }
namespace Rows
def none {H : Type} : Left H := { results := [], args := [] }

/-- 'saccharumlaw04.ProofFewest': WHATEVER THE INPUT: true; the input reads as it did. -/
def proofFewestSpec : ChangeSpec := { name := "proofFewest", fn := fun _ => fun
  | [d1, d2] => { results := [.lit (.bool true)], args := [d1, d2] }
  | _ => none }
def proofFewestRow : OpenClaim := { program := "ytiplgejpopellaagreat", sum := "f6693bba8ae2da29ea8550808652544adda6b3fbf255ed1a29b7ab47b596b5e9", func := "saccharum/saccharumlaw04.ProofFewest", spec := "proofFewest", unfollowed := true, recurses := true, plainKeys := false, apart := false }
def ProofFewestSaid : Prop := proofFewestRow.holds Tryz.pinned (OpenSpec.ofChange proofFewestSpec)

/-- ITS FALSE NEIGHBOUR: 'it returns false'. Refute it at one input. -/
def proofFewestWrong : ChangeSpec := { name := "proofFewest", fn := fun _ => fun
  | [d1, d2] => { results := [.lit (.bool false)], args := [d1, d2] }
  | _ => none }
def ProofFewestWrongFalsely : Prop := proofFewestRow.holds Tryz.pinned (OpenSpec.ofChange proofFewestWrong)

/-- 'saccharumlaw04.ProofMixed': WHATEVER THE INPUT: true; the input reads as it did. -/
def proofMixedSpec : ChangeSpec := { name := "proofMixed", fn := fun _ => fun
  | [d1, d2] => { results := [.lit (.bool true)], args := [d1, d2] }
  | _ => none }
def proofMixedRow : OpenClaim := { program := "ytiplgejpopellaagreat", sum := "f6693bba8ae2da29ea8550808652544adda6b3fbf255ed1a29b7ab47b596b5e9", func := "saccharum/saccharumlaw04.ProofMixed", spec := "proofMixed", unfollowed := true, recurses := true, plainKeys := false, apart := false }
def ProofMixedSaid : Prop := proofMixedRow.holds Tryz.pinned (OpenSpec.ofChange proofMixedSpec)

/-- ITS FALSE NEIGHBOUR: 'it returns false'. Refute it at one input. -/
def proofMixedWrong : ChangeSpec := { name := "proofMixed", fn := fun _ => fun
  | [d1, d2] => { results := [.lit (.bool false)], args := [d1, d2] }
  | _ => none }
def ProofMixedWrongFalsely : Prop := proofMixedRow.holds Tryz.pinned (OpenSpec.ofChange proofMixedWrong)

/-- 'saccharumlaw04.ProofShortest': WHATEVER THE INPUT: true; the input reads as it did. -/
def proofShortestSpec : ChangeSpec := { name := "proofShortest", fn := fun _ => fun
  | [d1, d2, d3, d4] => { results := [.lit (.bool true)], args := [d1, d2, d3, d4] }
  | _ => none }
def proofShortestRow : OpenClaim := { program := "ytiplgejpopellaagreat", sum := "f6693bba8ae2da29ea8550808652544adda6b3fbf255ed1a29b7ab47b596b5e9", func := "saccharum/saccharumlaw04.ProofShortest", spec := "proofShortest", unfollowed := true, recurses := true, plainKeys := false, apart := false }
def ProofShortestSaid : Prop := proofShortestRow.holds Tryz.pinned (OpenSpec.ofChange proofShortestSpec)

/-- ITS FALSE NEIGHBOUR: 'it returns false'. Refute it at one input. -/
def proofShortestWrong : ChangeSpec := { name := "proofShortest", fn := fun _ => fun
  | [d1, d2, d3, d4] => { results := [.lit (.bool false)], args := [d1, d2, d3, d4] }
  | _ => none }
def ProofShortestWrongFalsely : Prop := proofShortestRow.holds Tryz.pinned (OpenSpec.ofChange proofShortestWrong)

/- THE SECOND FORM. 'bulk': how many values and letters a reading holds, each counted each time it is reached (what is shared counts as often as it is met; a slice's spare places count too). A statement '..UptoSaid' is the law's where the arguments, and the package variables that the reading takes, are together of bulk at most 1048576: NARROWER than '..Said'. Prove '..Said' where nothing that the law and all that it calls make is longer than what came in: it says more and counts as full. Else prove '..UptoSaid'. A law counts once. -/
mutual
def uptoBulk {H : Type} : DataW H → Nat
  | .lit (.string bytes) => bytes.length + 1
  | .lit _ => 1
  | .nil => 1
  | .ptr d => uptoBulk d + 1
  | .slice elems spare => uptoBulkAll elems + uptoBulkAll spare + 1
  | .agg parts => uptoBulkAll parts + 1
  | .iface _ d => uptoBulk d + 1
  | .map entries => uptoBulkEntries entries + 1
  | .held _ => 1
def uptoBulkAll {H : Type} : List (DataW H) → Nat
  | [] => 0
  | d :: r => uptoBulk d + uptoBulkAll r
def uptoBulkEntries {H : Type} : List (Lit × DataW H) → Nat
  | [] => 0
  | x :: r => uptoBulkEntry x + uptoBulkEntries r
def uptoBulkEntry {H : Type} : Lit × DataW H → Nat
  | (.string bytes, d) => bytes.length + uptoBulk d + 1
  | (_, d) => uptoBulk d + 1
 end
def uptoSmall : (H : Type) → List (DataW H) → Bool := fun _ ds => decide (uptoBulkAll ds ≤ 1048576)
def OpenSpec.upto (s : _root_.Go.ChangeSpec) : _root_.Go.OpenSpec := { _root_.Go.OpenSpec.ofChange s with cond := some uptoSmall }

/-- 'saccharumlaw04.ProofFewest', WHERE WHAT IT READS IS OF BULK AT MOST 1048576: true; the input reads as it did. -/
def proofFewestUptoRow : OpenClaim := { program := "ytiplgejpopellaagreat", sum := "f6693bba8ae2da29ea8550808652544adda6b3fbf255ed1a29b7ab47b596b5e9", func := "saccharum/saccharumlaw04.ProofFewest", spec := "proofFewest", unfollowed := true, recurses := true, plainKeys := false, apart := false, narrowed := true }
def ProofFewestUptoSaid : Prop := proofFewestUptoRow.holds Tryz.pinned (OpenSpec.upto proofFewestSpec)

/-- 'saccharumlaw04.ProofMixed', WHERE WHAT IT READS IS OF BULK AT MOST 1048576: true; the input reads as it did. -/
def proofMixedUptoRow : OpenClaim := { program := "ytiplgejpopellaagreat", sum := "f6693bba8ae2da29ea8550808652544adda6b3fbf255ed1a29b7ab47b596b5e9", func := "saccharum/saccharumlaw04.ProofMixed", spec := "proofMixed", unfollowed := true, recurses := true, plainKeys := false, apart := false, narrowed := true }
def ProofMixedUptoSaid : Prop := proofMixedUptoRow.holds Tryz.pinned (OpenSpec.upto proofMixedSpec)

/-- 'saccharumlaw04.ProofShortest', WHERE WHAT IT READS IS OF BULK AT MOST 1048576: true; the input reads as it did. -/
def proofShortestUptoRow : OpenClaim := { program := "ytiplgejpopellaagreat", sum := "f6693bba8ae2da29ea8550808652544adda6b3fbf255ed1a29b7ab47b596b5e9", func := "saccharum/saccharumlaw04.ProofShortest", spec := "proofShortest", unfollowed := true, recurses := true, plainKeys := false, apart := false, narrowed := true }
def ProofShortestUptoSaid : Prop := proofShortestUptoRow.holds Tryz.pinned (OpenSpec.upto proofShortestSpec)

end Rows
end Go.Proofs.YtiplgejpopellaaGreat
