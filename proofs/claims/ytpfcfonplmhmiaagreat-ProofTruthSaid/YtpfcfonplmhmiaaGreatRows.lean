/-
  No cell of these rows narrows 'for every input' (looked for: loops, veiled, ifaces, maps, wideKeys, modest, calm, conditions, laid).
  DERIVED. THE GIVEN ROWS OF THIS SEAT. 4 by the template 'for every input the law returns true; each argument reads behind the call as it read before'; 0 by the template 'total and deterministic' (their statements: YtpfcfonplmhmiaaGreatTotals.lean).
  GIVEN WITH THE SEED: the statements are not yours to turn. If you find one false, say at which input.
  Laid BY PROGRAM, IN A SANDBOX (cutbox-rows.mjs): the forced cells as the released guide's own fill.sh prints them over the translation 1d1dc71ee98e1814… (all of the seat's roots in one cut). By AI agents, Wed Nov 11 2026. No macro, syntax, notation, axiom, sorry.
-/
import Derived.Test.YtpfcfonplmhmiaaGreatChecked
import GoSem.Claim
import GoSem.ClaimJoined
import GoSem.ClaimMapViews
import Derived.JoinedTies
import Derived.KernelRfl
namespace Go.Proofs.YtpfcfonplmhmiaaGreat
/- THE CELL 'sum', in the pinned program and in every row, IS THE sha256 OF THE DUMP (.gsa) THAT YtpfcfonplmhmiaaGreatProg.lean LOADS. Nothing in Lean hashes anything: it is a label: what it is worth is what the hold of that sum in a sandbox is worth. -/
noncomputable def Tryz.pinned : Pinned := { name := "ytpfcfonplmhmiaagreat", sum := "1d1dc71ee98e1814eda9ed87fe9010c90cd21ee38aa85ca9c152383cfd8fd118", checked := Tryz.checked }
namespace Rows
def none {H : Type} : Left H := { results := [], args := [] }

/-- 'saccharumlaw04.ProofEnds': WHATEVER THE INPUT: true; the input reads as it did. -/
def proofEndsSpec : ChangeSpec := { name := "proofEnds", fn := fun _ => fun
  | [d1, d2, d3] => { results := [.lit (.bool true)], args := [d1, d2, d3] }
  | _ => none }
def proofEndsRow : OpenClaim := { program := "ytpfcfonplmhmiaagreat", sum := "1d1dc71ee98e1814eda9ed87fe9010c90cd21ee38aa85ca9c152383cfd8fd118", func := "saccharum/saccharumlaw04.ProofEnds", spec := "proofEnds", unfollowed := true, recurses := true, plainKeys := false, apart := false }
def ProofEndsSaid : Prop := proofEndsRow.holds Tryz.pinned (OpenSpec.ofChange proofEndsSpec)

/-- ITS FALSE NEIGHBOUR: 'it returns false'. Refute it at one input. -/
def proofEndsWrong : ChangeSpec := { name := "proofEnds", fn := fun _ => fun
  | [d1, d2, d3] => { results := [.lit (.bool false)], args := [d1, d2, d3] }
  | _ => none }
def ProofEndsWrongFalsely : Prop := proofEndsRow.holds Tryz.pinned (OpenSpec.ofChange proofEndsWrong)

/-- 'saccharumlaw04.ProofTruth': WHATEVER THE INPUT: true; the input reads as it did. -/
def proofTruthSpec : ChangeSpec := { name := "proofTruth", fn := fun _ => fun
  | [d1, d2, d3, d4] => { results := [.lit (.bool true)], args := [d1, d2, d3, d4] }
  | _ => none }
def proofTruthRow : OpenClaim := { program := "ytpfcfonplmhmiaagreat", sum := "1d1dc71ee98e1814eda9ed87fe9010c90cd21ee38aa85ca9c152383cfd8fd118", func := "saccharum/saccharumlaw04.ProofTruth", spec := "proofTruth", unfollowed := true, recurses := true, plainKeys := false, apart := false }
def ProofTruthSaid : Prop := proofTruthRow.holds Tryz.pinned (OpenSpec.ofChange proofTruthSpec)

/-- ITS FALSE NEIGHBOUR: 'it returns false'. Refute it at one input. -/
def proofTruthWrong : ChangeSpec := { name := "proofTruth", fn := fun _ => fun
  | [d1, d2, d3, d4] => { results := [.lit (.bool false)], args := [d1, d2, d3, d4] }
  | _ => none }
def ProofTruthWrongFalsely : Prop := proofTruthRow.holds Tryz.pinned (OpenSpec.ofChange proofTruthWrong)

/-- 'saccharumlaw04.ProofMixed': WHATEVER THE INPUT: true; the input reads as it did. -/
def proofMixedSpec : ChangeSpec := { name := "proofMixed", fn := fun _ => fun
  | [d1, d2] => { results := [.lit (.bool true)], args := [d1, d2] }
  | _ => none }
def proofMixedRow : OpenClaim := { program := "ytpfcfonplmhmiaagreat", sum := "1d1dc71ee98e1814eda9ed87fe9010c90cd21ee38aa85ca9c152383cfd8fd118", func := "saccharum/saccharumlaw04.ProofMixed", spec := "proofMixed", unfollowed := true, recurses := true, plainKeys := false, apart := false }
def ProofMixedSaid : Prop := proofMixedRow.holds Tryz.pinned (OpenSpec.ofChange proofMixedSpec)

/-- ITS FALSE NEIGHBOUR: 'it returns false'. Refute it at one input. -/
def proofMixedWrong : ChangeSpec := { name := "proofMixed", fn := fun _ => fun
  | [d1, d2] => { results := [.lit (.bool false)], args := [d1, d2] }
  | _ => none }
def ProofMixedWrongFalsely : Prop := proofMixedRow.holds Tryz.pinned (OpenSpec.ofChange proofMixedWrong)

/-- 'saccharumlaw04.ProofBlends': WHATEVER THE INPUT: true; the input reads as it did. -/
def proofBlendsSpec : ChangeSpec := { name := "proofBlends", fn := fun _ => fun
  | [d1, d2, d3, d4] => { results := [.lit (.bool true)], args := [d1, d2, d3, d4] }
  | _ => none }
def proofBlendsRow : OpenClaim := { program := "ytpfcfonplmhmiaagreat", sum := "1d1dc71ee98e1814eda9ed87fe9010c90cd21ee38aa85ca9c152383cfd8fd118", func := "saccharum/saccharumlaw04.ProofBlends", spec := "proofBlends", unfollowed := true, recurses := true, plainKeys := false, apart := false }
def ProofBlendsSaid : Prop := proofBlendsRow.holds Tryz.pinned (OpenSpec.ofChange proofBlendsSpec)

/-- ITS FALSE NEIGHBOUR: 'it returns false'. Refute it at one input. -/
def proofBlendsWrong : ChangeSpec := { name := "proofBlends", fn := fun _ => fun
  | [d1, d2, d3, d4] => { results := [.lit (.bool false)], args := [d1, d2, d3, d4] }
  | _ => none }
def ProofBlendsWrongFalsely : Prop := proofBlendsRow.holds Tryz.pinned (OpenSpec.ofChange proofBlendsWrong)

/- THE SECOND FORM. 'bulk': how many values and letters a reading holds, each counted each time it is reached (what is shared counts as often as it is met; a slice's spare places count too). A statement '..UptoSaid' is the law's where the arguments, and the package variables that the reading takes, are together of bulk at most 1048576: NARROWER than '..Said'. Prove '..Said' where nothing that the law and all that it calls make is longer than what came in: it says more and counts as full. Else prove '..UptoSaid'. A law counts once. -/
mutual
def uptoBulk {H : Type} : DataW H → Nat
  | .lit (.string bytes) => bytes.length + 1
  | .lit _ => 1
  | .nil => 1
  | .ptr d => uptoBulk d + 1
  | .slice elems spare => uptoBulkAll elems + uptoBulkAll spare + 1
  | .agg parts => uptoBulkAll parts + 1
  | .iface _ d => uptoBulk d + 1
  | .map entries => uptoBulkEntries entries + 1
  | .held _ => 1
def uptoBulkAll {H : Type} : List (DataW H) → Nat
  | [] => 0
  | d :: r => uptoBulk d + uptoBulkAll r
def uptoBulkEntries {H : Type} : List (Lit × DataW H) → Nat
  | [] => 0
  | x :: r => uptoBulkEntry x + uptoBulkEntries r
def uptoBulkEntry {H : Type} : Lit × DataW H → Nat
  | (.string bytes, d) => bytes.length + uptoBulk d + 1
  | (_, d) => uptoBulk d + 1
 end
def uptoSmall : (H : Type) → List (DataW H) → Bool := fun _ ds => decide (uptoBulkAll ds ≤ 1048576)
def OpenSpec.upto (s : _root_.Go.ChangeSpec) : _root_.Go.OpenSpec := { _root_.Go.OpenSpec.ofChange s with cond := some uptoSmall }

/-- 'saccharumlaw04.ProofEnds', WHERE WHAT IT READS IS OF BULK AT MOST 1048576: true; the input reads as it did. -/
def proofEndsUptoRow : OpenClaim := { program := "ytpfcfonplmhmiaagreat", sum := "1d1dc71ee98e1814eda9ed87fe9010c90cd21ee38aa85ca9c152383cfd8fd118", func := "saccharum/saccharumlaw04.ProofEnds", spec := "proofEnds", unfollowed := true, recurses := true, plainKeys := false, apart := false, narrowed := true }
def ProofEndsUptoSaid : Prop := proofEndsUptoRow.holds Tryz.pinned (OpenSpec.upto proofEndsSpec)

/-- 'saccharumlaw04.ProofTruth', WHERE WHAT IT READS IS OF BULK AT MOST 1048576: true; the input reads as it did. -/
def proofTruthUptoRow : OpenClaim := { program := "ytpfcfonplmhmiaagreat", sum := "1d1dc71ee98e1814eda9ed87fe9010c90cd21ee38aa85ca9c152383cfd8fd118", func := "saccharum/saccharumlaw04.ProofTruth", spec := "proofTruth", unfollowed := true, recurses := true, plainKeys := false, apart := false, narrowed := true }
def ProofTruthUptoSaid : Prop := proofTruthUptoRow.holds Tryz.pinned (OpenSpec.upto proofTruthSpec)

/-- 'saccharumlaw04.ProofMixed', WHERE WHAT IT READS IS OF BULK AT MOST 1048576: true; the input reads as it did. -/
def proofMixedUptoRow : OpenClaim := { program := "ytpfcfonplmhmiaagreat", sum := "1d1dc71ee98e1814eda9ed87fe9010c90cd21ee38aa85ca9c152383cfd8fd118", func := "saccharum/saccharumlaw04.ProofMixed", spec := "proofMixed", unfollowed := true, recurses := true, plainKeys := false, apart := false, narrowed := true }
def ProofMixedUptoSaid : Prop := proofMixedUptoRow.holds Tryz.pinned (OpenSpec.upto proofMixedSpec)

/-- 'saccharumlaw04.ProofBlends', WHERE WHAT IT READS IS OF BULK AT MOST 1048576: true; the input reads as it did. -/
def proofBlendsUptoRow : OpenClaim := { program := "ytpfcfonplmhmiaagreat", sum := "1d1dc71ee98e1814eda9ed87fe9010c90cd21ee38aa85ca9c152383cfd8fd118", func := "saccharum/saccharumlaw04.ProofBlends", spec := "proofBlends", unfollowed := true, recurses := true, plainKeys := false, apart := false, narrowed := true }
def ProofBlendsUptoSaid : Prop := proofBlendsUptoRow.holds Tryz.pinned (OpenSpec.upto proofBlendsSpec)

end Rows
end Go.Proofs.YtpfcfonplmhmiaaGreat
