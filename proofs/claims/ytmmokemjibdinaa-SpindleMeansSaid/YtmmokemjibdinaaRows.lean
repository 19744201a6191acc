/-
  No cell of these rows narrows 'for every input' (looked for: loops, veiled, ifaces, maps, wideKeys, modest, calm, conditions, laid).
  DERIVED. THE GIVEN ROWS OF THIS SEAT. 13 by the template 'for every input the law returns true; each argument reads behind the call as it read before'; 0 by the template 'total and deterministic' (their statements: YtmmokemjibdinaaTotals.lean).
  GIVEN WITH THE SEED: the statements are not yours to turn. If you find one false, say at which input.
  Laid BY PROGRAM, IN A SANDBOX (cutbox-rows.mjs): the forced cells as the released guide's own fill.sh prints them over the translation cd3b9e56449be31e… (all of the seat's roots in one cut). By AI agents, Wed Nov 11 2026. No macro, syntax, notation, axiom, sorry.
-/
import Derived.Test.YtmmokemjibdinaaChecked
import GoSem.Claim
import GoSem.ClaimJoined
import GoSem.ClaimMapViews
import Derived.JoinedTies
import Derived.KernelRfl
namespace Go.Proofs.Ytmmokemjibdinaa
/- THE CELL 'sum', in the pinned program and in every row, IS THE sha256 OF THE DUMP (.gsa) THAT YtmmokemjibdinaaProg.lean LOADS. Nothing in Lean hashes anything: it is a label: what it is worth is what the hold of that sum in a sandbox is worth. -/
noncomputable def Try.pinned : Pinned := { name := "ytmmokemjibdinaa", sum := "cd3b9e56449be31ee1487e9410078f95891e26e622809044816a84ccc962a1eb", checked := Try.checked }
namespace Rows
def none {H : Type} : Left H := { results := [], args := [] }

/-- 'saccharumlaw01.SpindleSees': WHATEVER THE INPUT: true; the input reads as it did. -/
def spindleSeesSpec : ChangeSpec := { name := "spindleSees", fn := fun _ => fun
  | [d1, d2, d3] => { results := [.lit (.bool true)], args := [d1, d2, d3] }
  | _ => none }
def spindleSeesRow : OpenClaim := { program := "ytmmokemjibdinaa", sum := "cd3b9e56449be31ee1487e9410078f95891e26e622809044816a84ccc962a1eb", func := "saccharum/saccharumlaw01.SpindleSees", spec := "spindleSees", unfollowed := true, recurses := true, plainKeys := false, apart := false }
def SpindleSeesSaid : Prop := spindleSeesRow.holds Try.pinned (OpenSpec.ofChange spindleSeesSpec)

/-- ITS FALSE NEIGHBOUR: 'it returns false'. Refute it at one input. -/
def spindleSeesWrong : ChangeSpec := { name := "spindleSees", fn := fun _ => fun
  | [d1, d2, d3] => { results := [.lit (.bool false)], args := [d1, d2, d3] }
  | _ => none }
def SpindleSeesWrongFalsely : Prop := spindleSeesRow.holds Try.pinned (OpenSpec.ofChange spindleSeesWrong)

/-- 'saccharumlaw01.SpindleMeans': WHATEVER THE INPUT: true; the input reads as it did. -/
def spindleMeansSpec : ChangeSpec := { name := "spindleMeans", fn := fun _ => fun
  | [d1, d2, d3] => { results := [.lit (.bool true)], args := [d1, d2, d3] }
  | _ => none }
def spindleMeansRow : OpenClaim := { program := "ytmmokemjibdinaa", sum := "cd3b9e56449be31ee1487e9410078f95891e26e622809044816a84ccc962a1eb", func := "saccharum/saccharumlaw01.SpindleMeans", spec := "spindleMeans", unfollowed := true, recurses := true, plainKeys := false, apart := false }
def SpindleMeansSaid : Prop := spindleMeansRow.holds Try.pinned (OpenSpec.ofChange spindleMeansSpec)

/-- ITS FALSE NEIGHBOUR: 'it returns false'. Refute it at one input. -/
def spindleMeansWrong : ChangeSpec := { name := "spindleMeans", fn := fun _ => fun
  | [d1, d2, d3] => { results := [.lit (.bool false)], args := [d1, d2, d3] }
  | _ => none }
def SpindleMeansWrongFalsely : Prop := spindleMeansRow.holds Try.pinned (OpenSpec.ofChange spindleMeansWrong)

/-- 'saccharumlaw01.SpindleNarrows': WHATEVER THE INPUT: true; the input reads as it did. -/
def spindleNarrowsSpec : ChangeSpec := { name := "spindleNarrows", fn := fun _ => fun
  | [d1, d2] => { results := [.lit (.bool true)], args := [d1, d2] }
  | _ => none }
def spindleNarrowsRow : OpenClaim := { program := "ytmmokemjibdinaa", sum := "cd3b9e56449be31ee1487e9410078f95891e26e622809044816a84ccc962a1eb", func := "saccharum/saccharumlaw01.SpindleNarrows", spec := "spindleNarrows", unfollowed := true, recurses := true, plainKeys := false, apart := false }
def SpindleNarrowsSaid : Prop := spindleNarrowsRow.holds Try.pinned (OpenSpec.ofChange spindleNarrowsSpec)

/-- ITS FALSE NEIGHBOUR: 'it returns false'. Refute it at one input. -/
def spindleNarrowsWrong : ChangeSpec := { name := "spindleNarrows", fn := fun _ => fun
  | [d1, d2] => { results := [.lit (.bool false)], args := [d1, d2] }
  | _ => none }
def SpindleNarrowsWrongFalsely : Prop := spindleNarrowsRow.holds Try.pinned (OpenSpec.ofChange spindleNarrowsWrong)

/-- 'saccharumlaw01.SpindleCovers': WHATEVER THE INPUT: true; the input reads as it did. -/
def spindleCoversSpec : ChangeSpec := { name := "spindleCovers", fn := fun _ => fun
  | [d1, d2, d3, d4] => { results := [.lit (.bool true)], args := [d1, d2, d3, d4] }
  | _ => none }
def spindleCoversRow : OpenClaim := { program := "ytmmokemjibdinaa", sum := "cd3b9e56449be31ee1487e9410078f95891e26e622809044816a84ccc962a1eb", func := "saccharum/saccharumlaw01.SpindleCovers", spec := "spindleCovers", unfollowed := true, recurses := true, plainKeys := false, apart := false }
def SpindleCoversSaid : Prop := spindleCoversRow.holds Try.pinned (OpenSpec.ofChange spindleCoversSpec)

/-- ITS FALSE NEIGHBOUR: 'it returns false'. Refute it at one input. -/
def spindleCoversWrong : ChangeSpec := { name := "spindleCovers", fn := fun _ => fun
  | [d1, d2, d3, d4] => { results := [.lit (.bool false)], args := [d1, d2, d3, d4] }
  | _ => none }
def SpindleCoversWrongFalsely : Prop := spindleCoversRow.holds Try.pinned (OpenSpec.ofChange spindleCoversWrong)

/-- 'saccharumlaw01.SpindleBest': WHATEVER THE INPUT: true; the input reads as it did. -/
def spindleBestSpec : ChangeSpec := { name := "spindleBest", fn := fun _ => fun
  | [d1, d2] => { results := [.lit (.bool true)], args := [d1, d2] }
  | _ => none }
def spindleBestRow : OpenClaim := { program := "ytmmokemjibdinaa", sum := "cd3b9e56449be31ee1487e9410078f95891e26e622809044816a84ccc962a1eb", func := "saccharum/saccharumlaw01.SpindleBest", spec := "spindleBest", unfollowed := true, recurses := true, plainKeys := false, apart := false }
def SpindleBestSaid : Prop := spindleBestRow.holds Try.pinned (OpenSpec.ofChange spindleBestSpec)

/-- ITS FALSE NEIGHBOUR: 'it returns false'. Refute it at one input. -/
def spindleBestWrong : ChangeSpec := { name := "spindleBest", fn := fun _ => fun
  | [d1, d2] => { results := [.lit (.bool false)], args := [d1, d2] }
  | _ => none }
def SpindleBestWrongFalsely : Prop := spindleBestRow.holds Try.pinned (OpenSpec.ofChange spindleBestWrong)

/-- 'saccharumlaw01.SpindleNames': WHATEVER THE INPUT: true; the input reads as it did. -/
def spindleNamesSpec : ChangeSpec := { name := "spindleNames", fn := fun _ => fun
  | [] => { results := [.lit (.bool true)], args := [] }
  | _ => none }
def spindleNamesRow : OpenClaim := { program := "ytmmokemjibdinaa", sum := "cd3b9e56449be31ee1487e9410078f95891e26e622809044816a84ccc962a1eb", func := "saccharum/saccharumlaw01.SpindleNames", spec := "spindleNames", unfollowed := true, recurses := true, plainKeys := false, apart := false }
def SpindleNamesSaid : Prop := spindleNamesRow.holds Try.pinned (OpenSpec.ofChange spindleNamesSpec)

/-- ITS FALSE NEIGHBOUR: 'it returns false'. Refute it at one input. -/
def spindleNamesWrong : ChangeSpec := { name := "spindleNames", fn := fun _ => fun
  | [] => { results := [.lit (.bool false)], args := [] }
  | _ => none }
def SpindleNamesWrongFalsely : Prop := spindleNamesRow.holds Try.pinned (OpenSpec.ofChange spindleNamesWrong)

/-- 'saccharumlaw01.SpindleTruth': WHATEVER THE INPUT: true; the input reads as it did. -/
def spindleTruthSpec : ChangeSpec := { name := "spindleTruth", fn := fun _ => fun
  | [d1, d2, d3, d4] => { results := [.lit (.bool true)], args := [d1, d2, d3, d4] }
  | _ => none }
def spindleTruthRow : OpenClaim := { program := "ytmmokemjibdinaa", sum := "cd3b9e56449be31ee1487e9410078f95891e26e622809044816a84ccc962a1eb", func := "saccharum/saccharumlaw01.SpindleTruth", spec := "spindleTruth", unfollowed := true, recurses := true, plainKeys := false, apart := false }
def SpindleTruthSaid : Prop := spindleTruthRow.holds Try.pinned (OpenSpec.ofChange spindleTruthSpec)

/-- ITS FALSE NEIGHBOUR: 'it returns false'. Refute it at one input. -/
def spindleTruthWrong : ChangeSpec := { name := "spindleTruth", fn := fun _ => fun
  | [d1, d2, d3, d4] => { results := [.lit (.bool false)], args := [d1, d2, d3, d4] }
  | _ => none }
def SpindleTruthWrongFalsely : Prop := spindleTruthRow.holds Try.pinned (OpenSpec.ofChange spindleTruthWrong)

/-- 'saccharumlaw01.SpindleBack': WHATEVER THE INPUT: true; the input reads as it did. -/
def spindleBackSpec : ChangeSpec := { name := "spindleBack", fn := fun _ => fun
  | [d1, d2, d3, d4] => { results := [.lit (.bool true)], args := [d1, d2, d3, d4] }
  | _ => none }
def spindleBackRow : OpenClaim := { program := "ytmmokemjibdinaa", sum := "cd3b9e56449be31ee1487e9410078f95891e26e622809044816a84ccc962a1eb", func := "saccharum/saccharumlaw01.SpindleBack", spec := "spindleBack", unfollowed := true, recurses := true, plainKeys := false, apart := false }
def SpindleBackSaid : Prop := spindleBackRow.holds Try.pinned (OpenSpec.ofChange spindleBackSpec)

/-- ITS FALSE NEIGHBOUR: 'it returns false'. Refute it at one input. -/
def spindleBackWrong : ChangeSpec := { name := "spindleBack", fn := fun _ => fun
  | [d1, d2, d3, d4] => { results := [.lit (.bool false)], args := [d1, d2, d3, d4] }
  | _ => none }
def SpindleBackWrongFalsely : Prop := spindleBackRow.holds Try.pinned (OpenSpec.ofChange spindleBackWrong)

/-- 'saccharumlaw01.SpindleDenser': WHATEVER THE INPUT: true; the input reads as it did. -/
def spindleDenserSpec : ChangeSpec := { name := "spindleDenser", fn := fun _ => fun
  | [d1, d2, d3, d4, d5] => { results := [.lit (.bool true)], args := [d1, d2, d3, d4, d5] }
  | _ => none }
def spindleDenserRow : OpenClaim := { program := "ytmmokemjibdinaa", sum := "cd3b9e56449be31ee1487e9410078f95891e26e622809044816a84ccc962a1eb", func := "saccharum/saccharumlaw01.SpindleDenser", spec := "spindleDenser", unfollowed := true, recurses := true, plainKeys := false, apart := false }
def SpindleDenserSaid : Prop := spindleDenserRow.holds Try.pinned (OpenSpec.ofChange spindleDenserSpec)

/-- ITS FALSE NEIGHBOUR: 'it returns false'. Refute it at one input. -/
def spindleDenserWrong : ChangeSpec := { name := "spindleDenser", fn := fun _ => fun
  | [d1, d2, d3, d4, d5] => { results := [.lit (.bool false)], args := [d1, d2, d3, d4, d5] }
  | _ => none }
def SpindleDenserWrongFalsely : Prop := spindleDenserRow.holds Try.pinned (OpenSpec.ofChange spindleDenserWrong)

/-- 'saccharumlaw01.SpindleLeft': WHATEVER THE INPUT: true; the input reads as it did. -/
def spindleLeftSpec : ChangeSpec := { name := "spindleLeft", fn := fun _ => fun
  | [d1, d2, d3] => { results := [.lit (.bool true)], args := [d1, d2, d3] }
  | _ => none }
def spindleLeftRow : OpenClaim := { program := "ytmmokemjibdinaa", sum := "cd3b9e56449be31ee1487e9410078f95891e26e622809044816a84ccc962a1eb", func := "saccharum/saccharumlaw01.SpindleLeft", spec := "spindleLeft", unfollowed := true, recurses := true, plainKeys := false, apart := false }
def SpindleLeftSaid : Prop := spindleLeftRow.holds Try.pinned (OpenSpec.ofChange spindleLeftSpec)

/-- ITS FALSE NEIGHBOUR: 'it returns false'. Refute it at one input. -/
def spindleLeftWrong : ChangeSpec := { name := "spindleLeft", fn := fun _ => fun
  | [d1, d2, d3] => { results := [.lit (.bool false)], args := [d1, d2, d3] }
  | _ => none }
def SpindleLeftWrongFalsely : Prop := spindleLeftRow.holds Try.pinned (OpenSpec.ofChange spindleLeftWrong)

/-- 'saccharumlaw01.SpindleFewest': WHATEVER THE INPUT: true; the input reads as it did. -/
def spindleFewestSpec : ChangeSpec := { name := "spindleFewest", fn := fun _ => fun
  | [d1, d2, d3, d4, d5] => { results := [.lit (.bool true)], args := [d1, d2, d3, d4, d5] }
  | _ => none }
def spindleFewestRow : OpenClaim := { program := "ytmmokemjibdinaa", sum := "cd3b9e56449be31ee1487e9410078f95891e26e622809044816a84ccc962a1eb", func := "saccharum/saccharumlaw01.SpindleFewest", spec := "spindleFewest", unfollowed := true, recurses := true, plainKeys := false, apart := false }
def SpindleFewestSaid : Prop := spindleFewestRow.holds Try.pinned (OpenSpec.ofChange spindleFewestSpec)

/-- ITS FALSE NEIGHBOUR: 'it returns false'. Refute it at one input. -/
def spindleFewestWrong : ChangeSpec := { name := "spindleFewest", fn := fun _ => fun
  | [d1, d2, d3, d4, d5] => { results := [.lit (.bool false)], args := [d1, d2, d3, d4, d5] }
  | _ => none }
def SpindleFewestWrongFalsely : Prop := spindleFewestRow.holds Try.pinned (OpenSpec.ofChange spindleFewestWrong)

/-- 'saccharumlaw01.SpindleTells': WHATEVER THE INPUT: true; the input reads as it did. -/
def spindleTellsSpec : ChangeSpec := { name := "spindleTells", fn := fun _ => fun
  | [d1, d2, d3, d4, d5, d6] => { results := [.lit (.bool true)], args := [d1, d2, d3, d4, d5, d6] }
  | _ => none }
def spindleTellsRow : OpenClaim := { program := "ytmmokemjibdinaa", sum := "cd3b9e56449be31ee1487e9410078f95891e26e622809044816a84ccc962a1eb", func := "saccharum/saccharumlaw01.SpindleTells", spec := "spindleTells", unfollowed := true, recurses := true, plainKeys := false, apart := false }
def SpindleTellsSaid : Prop := spindleTellsRow.holds Try.pinned (OpenSpec.ofChange spindleTellsSpec)

/-- ITS FALSE NEIGHBOUR: 'it returns false'. Refute it at one input. -/
def spindleTellsWrong : ChangeSpec := { name := "spindleTells", fn := fun _ => fun
  | [d1, d2, d3, d4, d5, d6] => { results := [.lit (.bool false)], args := [d1, d2, d3, d4, d5, d6] }
  | _ => none }
def SpindleTellsWrongFalsely : Prop := spindleTellsRow.holds Try.pinned (OpenSpec.ofChange spindleTellsWrong)

/-- 'saccharumlaw01.SpindleScale': WHATEVER THE INPUT: true; the input reads as it did. -/
def spindleScaleSpec : ChangeSpec := { name := "spindleScale", fn := fun _ => fun
  | [d1, d2, d3, d4, d5] => { results := [.lit (.bool true)], args := [d1, d2, d3, d4, d5] }
  | _ => none }
def spindleScaleRow : OpenClaim := { program := "ytmmokemjibdinaa", sum := "cd3b9e56449be31ee1487e9410078f95891e26e622809044816a84ccc962a1eb", func := "saccharum/saccharumlaw01.SpindleScale", spec := "spindleScale", unfollowed := true, recurses := true, plainKeys := false, apart := false }
def SpindleScaleSaid : Prop := spindleScaleRow.holds Try.pinned (OpenSpec.ofChange spindleScaleSpec)

/-- ITS FALSE NEIGHBOUR: 'it returns false'. Refute it at one input. -/
def spindleScaleWrong : ChangeSpec := { name := "spindleScale", fn := fun _ => fun
  | [d1, d2, d3, d4, d5] => { results := [.lit (.bool false)], args := [d1, d2, d3, d4, d5] }
  | _ => none }
def SpindleScaleWrongFalsely : Prop := spindleScaleRow.holds Try.pinned (OpenSpec.ofChange spindleScaleWrong)

/- THE SECOND FORM. 'bulk': how many values and letters a reading holds, each counted each time it is reached (what is shared counts as often as it is met; a slice's spare places count too). A statement '..UptoSaid' is the law's where the arguments, and the package variables that the reading takes, are together of bulk at most 1048576: NARROWER than '..Said'. Prove '..Said' where nothing that the law and all that it calls make is longer than what came in: it says more and counts as full. Else prove '..UptoSaid'. A law counts once. -/
mutual
def uptoBulk {H : Type} : DataW H → Nat
  | .lit (.string bytes) => bytes.length + 1
  | .lit _ => 1
  | .nil => 1
  | .ptr d => uptoBulk d + 1
  | .slice elems spare => uptoBulkAll elems + uptoBulkAll spare + 1
  | .agg parts => uptoBulkAll parts + 1
  | .iface _ d => uptoBulk d + 1
  | .map entries => uptoBulkEntries entries + 1
  | .held _ => 1
def uptoBulkAll {H : Type} : List (DataW H) → Nat
  | [] => 0
  | d :: r => uptoBulk d + uptoBulkAll r
def uptoBulkEntries {H : Type} : List (Lit × DataW H) → Nat
  | [] => 0
  | x :: r => uptoBulkEntry x + uptoBulkEntries r
def uptoBulkEntry {H : Type} : Lit × DataW H → Nat
  | (.string bytes, d) => bytes.length + uptoBulk d + 1
  | (_, d) => uptoBulk d + 1
 end
def uptoSmall : (H : Type) → List (DataW H) → Bool := fun _ ds => decide (uptoBulkAll ds ≤ 1048576)
def OpenSpec.upto (s : _root_.Go.ChangeSpec) : _root_.Go.OpenSpec := { _root_.Go.OpenSpec.ofChange s with cond := some uptoSmall }

/-- 'saccharumlaw01.SpindleSees', WHERE WHAT IT READS IS OF BULK AT MOST 1048576: true; the input reads as it did. -/
def spindleSeesUptoRow : OpenClaim := { program := "ytmmokemjibdinaa", sum := "cd3b9e56449be31ee1487e9410078f95891e26e622809044816a84ccc962a1eb", func := "saccharum/saccharumlaw01.SpindleSees", spec := "spindleSees", unfollowed := true, recurses := true, plainKeys := false, apart := false, narrowed := true }
def SpindleSeesUptoSaid : Prop := spindleSeesUptoRow.holds Try.pinned (OpenSpec.upto spindleSeesSpec)

/-- 'saccharumlaw01.SpindleMeans', WHERE WHAT IT READS IS OF BULK AT MOST 1048576: true; the input reads as it did. -/
def spindleMeansUptoRow : OpenClaim := { program := "ytmmokemjibdinaa", sum := "cd3b9e56449be31ee1487e9410078f95891e26e622809044816a84ccc962a1eb", func := "saccharum/saccharumlaw01.SpindleMeans", spec := "spindleMeans", unfollowed := true, recurses := true, plainKeys := false, apart := false, narrowed := true }
def SpindleMeansUptoSaid : Prop := spindleMeansUptoRow.holds Try.pinned (OpenSpec.upto spindleMeansSpec)

/-- 'saccharumlaw01.SpindleNarrows', WHERE WHAT IT READS IS OF BULK AT MOST 1048576: true; the input reads as it did. -/
def spindleNarrowsUptoRow : OpenClaim := { program := "ytmmokemjibdinaa", sum := "cd3b9e56449be31ee1487e9410078f95891e26e622809044816a84ccc962a1eb", func := "saccharum/saccharumlaw01.SpindleNarrows", spec := "spindleNarrows", unfollowed := true, recurses := true, plainKeys := false, apart := false, narrowed := true }
def SpindleNarrowsUptoSaid : Prop := spindleNarrowsUptoRow.holds Try.pinned (OpenSpec.upto spindleNarrowsSpec)

/-- 'saccharumlaw01.SpindleCovers', WHERE WHAT IT READS IS OF BULK AT MOST 1048576: true; the input reads as it did. -/
def spindleCoversUptoRow : OpenClaim := { program := "ytmmokemjibdinaa", sum := "cd3b9e56449be31ee1487e9410078f95891e26e622809044816a84ccc962a1eb", func := "saccharum/saccharumlaw01.SpindleCovers", spec := "spindleCovers", unfollowed := true, recurses := true, plainKeys := false, apart := false, narrowed := true }
def SpindleCoversUptoSaid : Prop := spindleCoversUptoRow.holds Try.pinned (OpenSpec.upto spindleCoversSpec)

/-- 'saccharumlaw01.SpindleBest', WHERE WHAT IT READS IS OF BULK AT MOST 1048576: true; the input reads as it did. -/
def spindleBestUptoRow : OpenClaim := { program := "ytmmokemjibdinaa", sum := "cd3b9e56449be31ee1487e9410078f95891e26e622809044816a84ccc962a1eb", func := "saccharum/saccharumlaw01.SpindleBest", spec := "spindleBest", unfollowed := true, recurses := true, plainKeys := false, apart := false, narrowed := true }
def SpindleBestUptoSaid : Prop := spindleBestUptoRow.holds Try.pinned (OpenSpec.upto spindleBestSpec)

/-- 'saccharumlaw01.SpindleNames', WHERE WHAT IT READS IS OF BULK AT MOST 1048576: true; the input reads as it did. -/
def spindleNamesUptoRow : OpenClaim := { program := "ytmmokemjibdinaa", sum := "cd3b9e56449be31ee1487e9410078f95891e26e622809044816a84ccc962a1eb", func := "saccharum/saccharumlaw01.SpindleNames", spec := "spindleNames", unfollowed := true, recurses := true, plainKeys := false, apart := false, narrowed := true }
def SpindleNamesUptoSaid : Prop := spindleNamesUptoRow.holds Try.pinned (OpenSpec.upto spindleNamesSpec)

/-- 'saccharumlaw01.SpindleTruth', WHERE WHAT IT READS IS OF BULK AT MOST 1048576: true; the input reads as it did. -/
def spindleTruthUptoRow : OpenClaim := { program := "ytmmokemjibdinaa", sum := "cd3b9e56449be31ee1487e9410078f95891e26e622809044816a84ccc962a1eb", func := "saccharum/saccharumlaw01.SpindleTruth", spec := "spindleTruth", unfollowed := true, recurses := true, plainKeys := false, apart := false, narrowed := true }
def SpindleTruthUptoSaid : Prop := spindleTruthUptoRow.holds Try.pinned (OpenSpec.upto spindleTruthSpec)

/-- 'saccharumlaw01.SpindleBack', WHERE WHAT IT READS IS OF BULK AT MOST 1048576: true; the input reads as it did. -/
def spindleBackUptoRow : OpenClaim := { program := "ytmmokemjibdinaa", sum := "cd3b9e56449be31ee1487e9410078f95891e26e622809044816a84ccc962a1eb", func := "saccharum/saccharumlaw01.SpindleBack", spec := "spindleBack", unfollowed := true, recurses := true, plainKeys := false, apart := false, narrowed := true }
def SpindleBackUptoSaid : Prop := spindleBackUptoRow.holds Try.pinned (OpenSpec.upto spindleBackSpec)

/-- 'saccharumlaw01.SpindleDenser', WHERE WHAT IT READS IS OF BULK AT MOST 1048576: true; the input reads as it did. -/
def spindleDenserUptoRow : OpenClaim := { program := "ytmmokemjibdinaa", sum := "cd3b9e56449be31ee1487e9410078f95891e26e622809044816a84ccc962a1eb", func := "saccharum/saccharumlaw01.SpindleDenser", spec := "spindleDenser", unfollowed := true, recurses := true, plainKeys := false, apart := false, narrowed := true }
def SpindleDenserUptoSaid : Prop := spindleDenserUptoRow.holds Try.pinned (OpenSpec.upto spindleDenserSpec)

/-- 'saccharumlaw01.SpindleLeft', WHERE WHAT IT READS IS OF BULK AT MOST 1048576: true; the input reads as it did. -/
def spindleLeftUptoRow : OpenClaim := { program := "ytmmokemjibdinaa", sum := "cd3b9e56449be31ee1487e9410078f95891e26e622809044816a84ccc962a1eb", func := "saccharum/saccharumlaw01.SpindleLeft", spec := "spindleLeft", unfollowed := true, recurses := true, plainKeys := false, apart := false, narrowed := true }
def SpindleLeftUptoSaid : Prop := spindleLeftUptoRow.holds Try.pinned (OpenSpec.upto spindleLeftSpec)

/-- 'saccharumlaw01.SpindleFewest', WHERE WHAT IT READS IS OF BULK AT MOST 1048576: true; the input reads as it did. -/
def spindleFewestUptoRow : OpenClaim := { program := "ytmmokemjibdinaa", sum := "cd3b9e56449be31ee1487e9410078f95891e26e622809044816a84ccc962a1eb", func := "saccharum/saccharumlaw01.SpindleFewest", spec := "spindleFewest", unfollowed := true, recurses := true, plainKeys := false, apart := false, narrowed := true }
def SpindleFewestUptoSaid : Prop := spindleFewestUptoRow.holds Try.pinned (OpenSpec.upto spindleFewestSpec)

/-- 'saccharumlaw01.SpindleTells', WHERE WHAT IT READS IS OF BULK AT MOST 1048576: true; the input reads as it did. -/
def spindleTellsUptoRow : OpenClaim := { program := "ytmmokemjibdinaa", sum := "cd3b9e56449be31ee1487e9410078f95891e26e622809044816a84ccc962a1eb", func := "saccharum/saccharumlaw01.SpindleTells", spec := "spindleTells", unfollowed := true, recurses := true, plainKeys := false, apart := false, narrowed := true }
def SpindleTellsUptoSaid : Prop := spindleTellsUptoRow.holds Try.pinned (OpenSpec.upto spindleTellsSpec)

/-- 'saccharumlaw01.SpindleScale', WHERE WHAT IT READS IS OF BULK AT MOST 1048576: true; the input reads as it did. -/
def spindleScaleUptoRow : OpenClaim := { program := "ytmmokemjibdinaa", sum := "cd3b9e56449be31ee1487e9410078f95891e26e622809044816a84ccc962a1eb", func := "saccharum/saccharumlaw01.SpindleScale", spec := "spindleScale", unfollowed := true, recurses := true, plainKeys := false, apart := false, narrowed := true }
def SpindleScaleUptoSaid : Prop := spindleScaleUptoRow.holds Try.pinned (OpenSpec.upto spindleScaleSpec)

end Rows
end Go.Proofs.Ytmmokemjibdinaa
