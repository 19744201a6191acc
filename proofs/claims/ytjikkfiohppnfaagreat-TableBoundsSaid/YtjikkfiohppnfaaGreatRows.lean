/-
  No cell of these rows narrows 'for every input' (looked for: loops, veiled, ifaces, maps, wideKeys, modest, calm, conditions, laid).
  DERIVED. THE GIVEN ROWS OF THIS SEAT. 15 by the template 'for every input the law returns true; each argument reads behind the call as it read before'; 0 by the template 'total and deterministic' (their statements: YtjikkfiohppnfaaGreatTotals.lean).
  GIVEN WITH THE SEED: the statements are not yours to turn. If you find one false, say at which input.
  Laid BY PROGRAM, IN A SANDBOX (cutbox-rows.mjs): the forced cells as the released guide's own fill.sh prints them over the translation 59ad50cfee0ee064… (all of the seat's roots in one cut). By AI agents, Wed Nov 11 2026. No macro, syntax, notation, axiom, sorry.
-/
import Derived.Test.YtjikkfiohppnfaaGreatChecked
import GoSem.Claim
import GoSem.ClaimJoined
import GoSem.ClaimMapViews
import Derived.JoinedTies
import Derived.KernelRfl
namespace Go.Proofs.YtjikkfiohppnfaaGreat
/- THE CELL 'sum', in the pinned program and in every row, IS THE sha256 OF THE DUMP (.gsa) THAT YtjikkfiohppnfaaGreatProg.lean LOADS. Nothing in Lean hashes anything: it is a label: what it is worth is what the hold of that sum in a sandbox is worth. -/
noncomputable def Tryz.pinned : Pinned := { name := "ytjikkfiohppnfaagreat", sum := "59ad50cfee0ee0643736560a43913265fc22ac3a4ab48c6b8bc61a609ca4d37c", checked := Tryz.checked }
namespace Rows
def none {H : Type} : Left H := { results := [], args := [] }

/-- 'saccharumlaw02.TableAt': WHATEVER THE INPUT: true; the input reads as it did. -/
def tableAtSpec : ChangeSpec := { name := "tableAt", fn := fun _ => fun
  | [d1, d2, d3] => { results := [.lit (.bool true)], args := [d1, d2, d3] }
  | _ => none }
def tableAtRow : OpenClaim := { program := "ytjikkfiohppnfaagreat", sum := "59ad50cfee0ee0643736560a43913265fc22ac3a4ab48c6b8bc61a609ca4d37c", func := "saccharum/saccharumlaw02.TableAt", spec := "tableAt", unfollowed := true, recurses := true, plainKeys := false, apart := false }
def TableAtSaid : Prop := tableAtRow.holds Tryz.pinned (OpenSpec.ofChange tableAtSpec)

/-- ITS FALSE NEIGHBOUR: 'it returns false'. Refute it at one input. -/
def tableAtWrong : ChangeSpec := { name := "tableAt", fn := fun _ => fun
  | [d1, d2, d3] => { results := [.lit (.bool false)], args := [d1, d2, d3] }
  | _ => none }
def TableAtWrongFalsely : Prop := tableAtRow.holds Tryz.pinned (OpenSpec.ofChange tableAtWrong)

/-- 'saccharumlaw02.TableBounds': WHATEVER THE INPUT: true; the input reads as it did. -/
def tableBoundsSpec : ChangeSpec := { name := "tableBounds", fn := fun _ => fun
  | [d1, d2, d3, d4] => { results := [.lit (.bool true)], args := [d1, d2, d3, d4] }
  | _ => none }
def tableBoundsRow : OpenClaim := { program := "ytjikkfiohppnfaagreat", sum := "59ad50cfee0ee0643736560a43913265fc22ac3a4ab48c6b8bc61a609ca4d37c", func := "saccharum/saccharumlaw02.TableBounds", spec := "tableBounds", unfollowed := true, recurses := true, plainKeys := false, apart := false }
def TableBoundsSaid : Prop := tableBoundsRow.holds Tryz.pinned (OpenSpec.ofChange tableBoundsSpec)

/-- ITS FALSE NEIGHBOUR: 'it returns false'. Refute it at one input. -/
def tableBoundsWrong : ChangeSpec := { name := "tableBounds", fn := fun _ => fun
  | [d1, d2, d3, d4] => { results := [.lit (.bool false)], args := [d1, d2, d3, d4] }
  | _ => none }
def TableBoundsWrongFalsely : Prop := tableBoundsRow.holds Tryz.pinned (OpenSpec.ofChange tableBoundsWrong)

/-- 'saccharumlaw02.TableMisprints': WHATEVER THE INPUT: true; the input reads as it did. -/
def tableMisprintsSpec : ChangeSpec := { name := "tableMisprints", fn := fun _ => fun
  | [d] => { results := [.lit (.bool true)], args := [d] }
  | _ => none }
def tableMisprintsRow : OpenClaim := { program := "ytjikkfiohppnfaagreat", sum := "59ad50cfee0ee0643736560a43913265fc22ac3a4ab48c6b8bc61a609ca4d37c", func := "saccharum/saccharumlaw02.TableMisprints", spec := "tableMisprints", unfollowed := true, recurses := true, plainKeys := false, apart := false }
def TableMisprintsSaid : Prop := tableMisprintsRow.holds Tryz.pinned (OpenSpec.ofChange tableMisprintsSpec)

/-- ITS FALSE NEIGHBOUR: 'it returns false'. Refute it at one input. -/
def tableMisprintsWrong : ChangeSpec := { name := "tableMisprints", fn := fun _ => fun
  | [d] => { results := [.lit (.bool false)], args := [d] }
  | _ => none }
def TableMisprintsWrongFalsely : Prop := tableMisprintsRow.holds Tryz.pinned (OpenSpec.ofChange tableMisprintsWrong)

/-- 'saccharumlaw02.TableProves': WHATEVER THE INPUT: true; the input reads as it did. -/
def tableProvesSpec : ChangeSpec := { name := "tableProves", fn := fun _ => fun
  | [d1, d2, d3, d4] => { results := [.lit (.bool true)], args := [d1, d2, d3, d4] }
  | _ => none }
def tableProvesRow : OpenClaim := { program := "ytjikkfiohppnfaagreat", sum := "59ad50cfee0ee0643736560a43913265fc22ac3a4ab48c6b8bc61a609ca4d37c", func := "saccharum/saccharumlaw02.TableProves", spec := "tableProves", unfollowed := true, recurses := true, plainKeys := false, apart := false }
def TableProvesSaid : Prop := tableProvesRow.holds Tryz.pinned (OpenSpec.ofChange tableProvesSpec)

/-- ITS FALSE NEIGHBOUR: 'it returns false'. Refute it at one input. -/
def tableProvesWrong : ChangeSpec := { name := "tableProves", fn := fun _ => fun
  | [d1, d2, d3, d4] => { results := [.lit (.bool false)], args := [d1, d2, d3, d4] }
  | _ => none }
def TableProvesWrongFalsely : Prop := tableProvesRow.holds Tryz.pinned (OpenSpec.ofChange tableProvesWrong)

/-- 'saccharumlaw02.TableThins': WHATEVER THE INPUT: true; the input reads as it did. -/
def tableThinsSpec : ChangeSpec := { name := "tableThins", fn := fun _ => fun
  | [d1, d2] => { results := [.lit (.bool true)], args := [d1, d2] }
  | _ => none }
def tableThinsRow : OpenClaim := { program := "ytjikkfiohppnfaagreat", sum := "59ad50cfee0ee0643736560a43913265fc22ac3a4ab48c6b8bc61a609ca4d37c", func := "saccharum/saccharumlaw02.TableThins", spec := "tableThins", unfollowed := true, recurses := true, plainKeys := false, apart := false }
def TableThinsSaid : Prop := tableThinsRow.holds Tryz.pinned (OpenSpec.ofChange tableThinsSpec)

/-- ITS FALSE NEIGHBOUR: 'it returns false'. Refute it at one input. -/
def tableThinsWrong : ChangeSpec := { name := "tableThins", fn := fun _ => fun
  | [d1, d2] => { results := [.lit (.bool false)], args := [d1, d2] }
  | _ => none }
def TableThinsWrongFalsely : Prop := tableThinsRow.holds Tryz.pinned (OpenSpec.ofChange tableThinsWrong)

/-- 'saccharumlaw02.TableNames': WHATEVER THE INPUT: true; the input reads as it did. -/
def tableNamesSpec : ChangeSpec := { name := "tableNames", fn := fun _ => fun
  | [] => { results := [.lit (.bool true)], args := [] }
  | _ => none }
def tableNamesRow : OpenClaim := { program := "ytjikkfiohppnfaagreat", sum := "59ad50cfee0ee0643736560a43913265fc22ac3a4ab48c6b8bc61a609ca4d37c", func := "saccharum/saccharumlaw02.TableNames", spec := "tableNames", unfollowed := true, recurses := true, plainKeys := false, apart := false }
def TableNamesSaid : Prop := tableNamesRow.holds Tryz.pinned (OpenSpec.ofChange tableNamesSpec)

/-- ITS FALSE NEIGHBOUR: 'it returns false'. Refute it at one input. -/
def tableNamesWrong : ChangeSpec := { name := "tableNames", fn := fun _ => fun
  | [] => { results := [.lit (.bool false)], args := [] }
  | _ => none }
def TableNamesWrongFalsely : Prop := tableNamesRow.holds Tryz.pinned (OpenSpec.ofChange tableNamesWrong)

/-- 'saccharumlaw02.TableTruth': WHATEVER THE INPUT: true; the input reads as it did. -/
def tableTruthSpec : ChangeSpec := { name := "tableTruth", fn := fun _ => fun
  | [d1, d2, d3, d4, d5] => { results := [.lit (.bool true)], args := [d1, d2, d3, d4, d5] }
  | _ => none }
def tableTruthRow : OpenClaim := { program := "ytjikkfiohppnfaagreat", sum := "59ad50cfee0ee0643736560a43913265fc22ac3a4ab48c6b8bc61a609ca4d37c", func := "saccharum/saccharumlaw02.TableTruth", spec := "tableTruth", unfollowed := true, recurses := true, plainKeys := false, apart := false }
def TableTruthSaid : Prop := tableTruthRow.holds Tryz.pinned (OpenSpec.ofChange tableTruthSpec)

/-- ITS FALSE NEIGHBOUR: 'it returns false'. Refute it at one input. -/
def tableTruthWrong : ChangeSpec := { name := "tableTruth", fn := fun _ => fun
  | [d1, d2, d3, d4, d5] => { results := [.lit (.bool false)], args := [d1, d2, d3, d4, d5] }
  | _ => none }
def TableTruthWrongFalsely : Prop := tableTruthRow.holds Tryz.pinned (OpenSpec.ofChange tableTruthWrong)

/-- 'saccharumlaw02.TableGrid': WHATEVER THE INPUT: true; the input reads as it did. -/
def tableGridSpec : ChangeSpec := { name := "tableGrid", fn := fun _ => fun
  | [d1, d2, d3] => { results := [.lit (.bool true)], args := [d1, d2, d3] }
  | _ => none }
def tableGridRow : OpenClaim := { program := "ytjikkfiohppnfaagreat", sum := "59ad50cfee0ee0643736560a43913265fc22ac3a4ab48c6b8bc61a609ca4d37c", func := "saccharum/saccharumlaw02.TableGrid", spec := "tableGrid", unfollowed := true, recurses := true, plainKeys := false, apart := false }
def TableGridSaid : Prop := tableGridRow.holds Tryz.pinned (OpenSpec.ofChange tableGridSpec)

/-- ITS FALSE NEIGHBOUR: 'it returns false'. Refute it at one input. -/
def tableGridWrong : ChangeSpec := { name := "tableGrid", fn := fun _ => fun
  | [d1, d2, d3] => { results := [.lit (.bool false)], args := [d1, d2, d3] }
  | _ => none }
def TableGridWrongFalsely : Prop := tableGridRow.holds Tryz.pinned (OpenSpec.ofChange tableGridWrong)

/-- 'saccharumlaw02.TableProper': WHATEVER THE INPUT: true; the input reads as it did. -/
def tableProperSpec : ChangeSpec := { name := "tableProper", fn := fun _ => fun
  | [d1, d2, d3, d4, d5] => { results := [.lit (.bool true)], args := [d1, d2, d3, d4, d5] }
  | _ => none }
def tableProperRow : OpenClaim := { program := "ytjikkfiohppnfaagreat", sum := "59ad50cfee0ee0643736560a43913265fc22ac3a4ab48c6b8bc61a609ca4d37c", func := "saccharum/saccharumlaw02.TableProper", spec := "tableProper", unfollowed := true, recurses := true, plainKeys := false, apart := false }
def TableProperSaid : Prop := tableProperRow.holds Tryz.pinned (OpenSpec.ofChange tableProperSpec)

/-- ITS FALSE NEIGHBOUR: 'it returns false'. Refute it at one input. -/
def tableProperWrong : ChangeSpec := { name := "tableProper", fn := fun _ => fun
  | [d1, d2, d3, d4, d5] => { results := [.lit (.bool false)], args := [d1, d2, d3, d4, d5] }
  | _ => none }
def TableProperWrongFalsely : Prop := tableProperRow.holds Tryz.pinned (OpenSpec.ofChange tableProperWrong)

/-- 'saccharumlaw02.TableFewest': WHATEVER THE INPUT: true; the input reads as it did. -/
def tableFewestSpec : ChangeSpec := { name := "tableFewest", fn := fun _ => fun
  | [d1, d2] => { results := [.lit (.bool true)], args := [d1, d2] }
  | _ => none }
def tableFewestRow : OpenClaim := { program := "ytjikkfiohppnfaagreat", sum := "59ad50cfee0ee0643736560a43913265fc22ac3a4ab48c6b8bc61a609ca4d37c", func := "saccharum/saccharumlaw02.TableFewest", spec := "tableFewest", unfollowed := true, recurses := true, plainKeys := false, apart := false }
def TableFewestSaid : Prop := tableFewestRow.holds Tryz.pinned (OpenSpec.ofChange tableFewestSpec)

/-- ITS FALSE NEIGHBOUR: 'it returns false'. Refute it at one input. -/
def tableFewestWrong : ChangeSpec := { name := "tableFewest", fn := fun _ => fun
  | [d1, d2] => { results := [.lit (.bool false)], args := [d1, d2] }
  | _ => none }
def TableFewestWrongFalsely : Prop := tableFewestRow.holds Tryz.pinned (OpenSpec.ofChange tableFewestWrong)

/-- 'saccharumlaw02.TableChanged': WHATEVER THE INPUT: true; the input reads as it did. -/
def tableChangedSpec : ChangeSpec := { name := "tableChanged", fn := fun _ => fun
  | [d1, d2, d3, d4] => { results := [.lit (.bool true)], args := [d1, d2, d3, d4] }
  | _ => none }
def tableChangedRow : OpenClaim := { program := "ytjikkfiohppnfaagreat", sum := "59ad50cfee0ee0643736560a43913265fc22ac3a4ab48c6b8bc61a609ca4d37c", func := "saccharum/saccharumlaw02.TableChanged", spec := "tableChanged", unfollowed := true, recurses := true, plainKeys := false, apart := false }
def TableChangedSaid : Prop := tableChangedRow.holds Tryz.pinned (OpenSpec.ofChange tableChangedSpec)

/-- ITS FALSE NEIGHBOUR: 'it returns false'. Refute it at one input. -/
def tableChangedWrong : ChangeSpec := { name := "tableChanged", fn := fun _ => fun
  | [d1, d2, d3, d4] => { results := [.lit (.bool false)], args := [d1, d2, d3, d4] }
  | _ => none }
def TableChangedWrongFalsely : Prop := tableChangedRow.holds Tryz.pinned (OpenSpec.ofChange tableChangedWrong)

/-- 'saccharumlaw02.TableHigher': WHATEVER THE INPUT: true; the input reads as it did. -/
def tableHigherSpec : ChangeSpec := { name := "tableHigher", fn := fun _ => fun
  | [d1, d2, d3, d4, d5, d6] => { results := [.lit (.bool true)], args := [d1, d2, d3, d4, d5, d6] }
  | _ => none }
def tableHigherRow : OpenClaim := { program := "ytjikkfiohppnfaagreat", sum := "59ad50cfee0ee0643736560a43913265fc22ac3a4ab48c6b8bc61a609ca4d37c", func := "saccharum/saccharumlaw02.TableHigher", spec := "tableHigher", unfollowed := true, recurses := true, plainKeys := false, apart := false }
def TableHigherSaid : Prop := tableHigherRow.holds Tryz.pinned (OpenSpec.ofChange tableHigherSpec)

/-- ITS FALSE NEIGHBOUR: 'it returns false'. Refute it at one input. -/
def tableHigherWrong : ChangeSpec := { name := "tableHigher", fn := fun _ => fun
  | [d1, d2, d3, d4, d5, d6] => { results := [.lit (.bool false)], args := [d1, d2, d3, d4, d5, d6] }
  | _ => none }
def TableHigherWrongFalsely : Prop := tableHigherRow.holds Tryz.pinned (OpenSpec.ofChange tableHigherWrong)

/-- 'saccharumlaw02.TableTurned': WHATEVER THE INPUT: true; the input reads as it did. -/
def tableTurnedSpec : ChangeSpec := { name := "tableTurned", fn := fun _ => fun
  | [d1, d2, d3] => { results := [.lit (.bool true)], args := [d1, d2, d3] }
  | _ => none }
def tableTurnedRow : OpenClaim := { program := "ytjikkfiohppnfaagreat", sum := "59ad50cfee0ee0643736560a43913265fc22ac3a4ab48c6b8bc61a609ca4d37c", func := "saccharum/saccharumlaw02.TableTurned", spec := "tableTurned", unfollowed := true, recurses := true, plainKeys := false, apart := false }
def TableTurnedSaid : Prop := tableTurnedRow.holds Tryz.pinned (OpenSpec.ofChange tableTurnedSpec)

/-- ITS FALSE NEIGHBOUR: 'it returns false'. Refute it at one input. -/
def tableTurnedWrong : ChangeSpec := { name := "tableTurned", fn := fun _ => fun
  | [d1, d2, d3] => { results := [.lit (.bool false)], args := [d1, d2, d3] }
  | _ => none }
def TableTurnedWrongFalsely : Prop := tableTurnedRow.holds Tryz.pinned (OpenSpec.ofChange tableTurnedWrong)

/-- 'saccharumlaw02.TableWider': WHATEVER THE INPUT: true; the input reads as it did. -/
def tableWiderSpec : ChangeSpec := { name := "tableWider", fn := fun _ => fun
  | [d1, d2, d3, d4, d5, d6, d7] => { results := [.lit (.bool true)], args := [d1, d2, d3, d4, d5, d6, d7] }
  | _ => none }
def tableWiderRow : OpenClaim := { program := "ytjikkfiohppnfaagreat", sum := "59ad50cfee0ee0643736560a43913265fc22ac3a4ab48c6b8bc61a609ca4d37c", func := "saccharum/saccharumlaw02.TableWider", spec := "tableWider", unfollowed := true, recurses := true, plainKeys := false, apart := false }
def TableWiderSaid : Prop := tableWiderRow.holds Tryz.pinned (OpenSpec.ofChange tableWiderSpec)

/-- ITS FALSE NEIGHBOUR: 'it returns false'. Refute it at one input. -/
def tableWiderWrong : ChangeSpec := { name := "tableWider", fn := fun _ => fun
  | [d1, d2, d3, d4, d5, d6, d7] => { results := [.lit (.bool false)], args := [d1, d2, d3, d4, d5, d6, d7] }
  | _ => none }
def TableWiderWrongFalsely : Prop := tableWiderRow.holds Tryz.pinned (OpenSpec.ofChange tableWiderWrong)

/-- 'saccharumlaw02.TableThinned': WHATEVER THE INPUT: true; the input reads as it did. -/
def tableThinnedSpec : ChangeSpec := { name := "tableThinned", fn := fun _ => fun
  | [d1, d2, d3, d4, d5, d6, d7] => { results := [.lit (.bool true)], args := [d1, d2, d3, d4, d5, d6, d7] }
  | _ => none }
def tableThinnedRow : OpenClaim := { program := "ytjikkfiohppnfaagreat", sum := "59ad50cfee0ee0643736560a43913265fc22ac3a4ab48c6b8bc61a609ca4d37c", func := "saccharum/saccharumlaw02.TableThinned", spec := "tableThinned", unfollowed := true, recurses := true, plainKeys := false, apart := false }
def TableThinnedSaid : Prop := tableThinnedRow.holds Tryz.pinned (OpenSpec.ofChange tableThinnedSpec)

/-- ITS FALSE NEIGHBOUR: 'it returns false'. Refute it at one input. -/
def tableThinnedWrong : ChangeSpec := { name := "tableThinned", fn := fun _ => fun
  | [d1, d2, d3, d4, d5, d6, d7] => { results := [.lit (.bool false)], args := [d1, d2, d3, d4, d5, d6, d7] }
  | _ => none }
def TableThinnedWrongFalsely : Prop := tableThinnedRow.holds Tryz.pinned (OpenSpec.ofChange tableThinnedWrong)

/- THE SECOND FORM. 'bulk': how many values and letters a reading holds, each counted each time it is reached (what is shared counts as often as it is met; a slice's spare places count too). A statement '..UptoSaid' is the law's where the arguments, and the package variables that the reading takes, are together of bulk at most 1048576: NARROWER than '..Said'. Prove '..Said' where nothing that the law and all that it calls make is longer than what came in: it says more and counts as full. Else prove '..UptoSaid'. A law counts once. -/
mutual
def uptoBulk {H : Type} : DataW H → Nat
  | .lit (.string bytes) => bytes.length + 1
  | .lit _ => 1
  | .nil => 1
  | .ptr d => uptoBulk d + 1
  | .slice elems spare => uptoBulkAll elems + uptoBulkAll spare + 1
  | .agg parts => uptoBulkAll parts + 1
  | .iface _ d => uptoBulk d + 1
  | .map entries => uptoBulkEntries entries + 1
  | .held _ => 1
def uptoBulkAll {H : Type} : List (DataW H) → Nat
  | [] => 0
  | d :: r => uptoBulk d + uptoBulkAll r
def uptoBulkEntries {H : Type} : List (Lit × DataW H) → Nat
  | [] => 0
  | x :: r => uptoBulkEntry x + uptoBulkEntries r
def uptoBulkEntry {H : Type} : Lit × DataW H → Nat
  | (.string bytes, d) => bytes.length + uptoBulk d + 1
  | (_, d) => uptoBulk d + 1
 end
def uptoSmall : (H : Type) → List (DataW H) → Bool := fun _ ds => decide (uptoBulkAll ds ≤ 1048576)
def OpenSpec.upto (s : _root_.Go.ChangeSpec) : _root_.Go.OpenSpec := { _root_.Go.OpenSpec.ofChange s with cond := some uptoSmall }

/-- 'saccharumlaw02.TableAt', WHERE WHAT IT READS IS OF BULK AT MOST 1048576: true; the input reads as it did. -/
def tableAtUptoRow : OpenClaim := { program := "ytjikkfiohppnfaagreat", sum := "59ad50cfee0ee0643736560a43913265fc22ac3a4ab48c6b8bc61a609ca4d37c", func := "saccharum/saccharumlaw02.TableAt", spec := "tableAt", unfollowed := true, recurses := true, plainKeys := false, apart := false, narrowed := true }
def TableAtUptoSaid : Prop := tableAtUptoRow.holds Tryz.pinned (OpenSpec.upto tableAtSpec)

/-- 'saccharumlaw02.TableBounds', WHERE WHAT IT READS IS OF BULK AT MOST 1048576: true; the input reads as it did. -/
def tableBoundsUptoRow : OpenClaim := { program := "ytjikkfiohppnfaagreat", sum := "59ad50cfee0ee0643736560a43913265fc22ac3a4ab48c6b8bc61a609ca4d37c", func := "saccharum/saccharumlaw02.TableBounds", spec := "tableBounds", unfollowed := true, recurses := true, plainKeys := false, apart := false, narrowed := true }
def TableBoundsUptoSaid : Prop := tableBoundsUptoRow.holds Tryz.pinned (OpenSpec.upto tableBoundsSpec)

/-- 'saccharumlaw02.TableMisprints', WHERE WHAT IT READS IS OF BULK AT MOST 1048576: true; the input reads as it did. -/
def tableMisprintsUptoRow : OpenClaim := { program := "ytjikkfiohppnfaagreat", sum := "59ad50cfee0ee0643736560a43913265fc22ac3a4ab48c6b8bc61a609ca4d37c", func := "saccharum/saccharumlaw02.TableMisprints", spec := "tableMisprints", unfollowed := true, recurses := true, plainKeys := false, apart := false, narrowed := true }
def TableMisprintsUptoSaid : Prop := tableMisprintsUptoRow.holds Tryz.pinned (OpenSpec.upto tableMisprintsSpec)

/-- 'saccharumlaw02.TableProves', WHERE WHAT IT READS IS OF BULK AT MOST 1048576: true; the input reads as it did. -/
def tableProvesUptoRow : OpenClaim := { program := "ytjikkfiohppnfaagreat", sum := "59ad50cfee0ee0643736560a43913265fc22ac3a4ab48c6b8bc61a609ca4d37c", func := "saccharum/saccharumlaw02.TableProves", spec := "tableProves", unfollowed := true, recurses := true, plainKeys := false, apart := false, narrowed := true }
def TableProvesUptoSaid : Prop := tableProvesUptoRow.holds Tryz.pinned (OpenSpec.upto tableProvesSpec)

/-- 'saccharumlaw02.TableThins', WHERE WHAT IT READS IS OF BULK AT MOST 1048576: true; the input reads as it did. -/
def tableThinsUptoRow : OpenClaim := { program := "ytjikkfiohppnfaagreat", sum := "59ad50cfee0ee0643736560a43913265fc22ac3a4ab48c6b8bc61a609ca4d37c", func := "saccharum/saccharumlaw02.TableThins", spec := "tableThins", unfollowed := true, recurses := true, plainKeys := false, apart := false, narrowed := true }
def TableThinsUptoSaid : Prop := tableThinsUptoRow.holds Tryz.pinned (OpenSpec.upto tableThinsSpec)

/-- 'saccharumlaw02.TableNames', WHERE WHAT IT READS IS OF BULK AT MOST 1048576: true; the input reads as it did. -/
def tableNamesUptoRow : OpenClaim := { program := "ytjikkfiohppnfaagreat", sum := "59ad50cfee0ee0643736560a43913265fc22ac3a4ab48c6b8bc61a609ca4d37c", func := "saccharum/saccharumlaw02.TableNames", spec := "tableNames", unfollowed := true, recurses := true, plainKeys := false, apart := false, narrowed := true }
def TableNamesUptoSaid : Prop := tableNamesUptoRow.holds Tryz.pinned (OpenSpec.upto tableNamesSpec)

/-- 'saccharumlaw02.TableTruth', WHERE WHAT IT READS IS OF BULK AT MOST 1048576: true; the input reads as it did. -/
def tableTruthUptoRow : OpenClaim := { program := "ytjikkfiohppnfaagreat", sum := "59ad50cfee0ee0643736560a43913265fc22ac3a4ab48c6b8bc61a609ca4d37c", func := "saccharum/saccharumlaw02.TableTruth", spec := "tableTruth", unfollowed := true, recurses := true, plainKeys := false, apart := false, narrowed := true }
def TableTruthUptoSaid : Prop := tableTruthUptoRow.holds Tryz.pinned (OpenSpec.upto tableTruthSpec)

/-- 'saccharumlaw02.TableGrid', WHERE WHAT IT READS IS OF BULK AT MOST 1048576: true; the input reads as it did. -/
def tableGridUptoRow : OpenClaim := { program := "ytjikkfiohppnfaagreat", sum := "59ad50cfee0ee0643736560a43913265fc22ac3a4ab48c6b8bc61a609ca4d37c", func := "saccharum/saccharumlaw02.TableGrid", spec := "tableGrid", unfollowed := true, recurses := true, plainKeys := false, apart := false, narrowed := true }
def TableGridUptoSaid : Prop := tableGridUptoRow.holds Tryz.pinned (OpenSpec.upto tableGridSpec)

/-- 'saccharumlaw02.TableProper', WHERE WHAT IT READS IS OF BULK AT MOST 1048576: true; the input reads as it did. -/
def tableProperUptoRow : OpenClaim := { program := "ytjikkfiohppnfaagreat", sum := "59ad50cfee0ee0643736560a43913265fc22ac3a4ab48c6b8bc61a609ca4d37c", func := "saccharum/saccharumlaw02.TableProper", spec := "tableProper", unfollowed := true, recurses := true, plainKeys := false, apart := false, narrowed := true }
def TableProperUptoSaid : Prop := tableProperUptoRow.holds Tryz.pinned (OpenSpec.upto tableProperSpec)

/-- 'saccharumlaw02.TableFewest', WHERE WHAT IT READS IS OF BULK AT MOST 1048576: true; the input reads as it did. -/
def tableFewestUptoRow : OpenClaim := { program := "ytjikkfiohppnfaagreat", sum := "59ad50cfee0ee0643736560a43913265fc22ac3a4ab48c6b8bc61a609ca4d37c", func := "saccharum/saccharumlaw02.TableFewest", spec := "tableFewest", unfollowed := true, recurses := true, plainKeys := false, apart := false, narrowed := true }
def TableFewestUptoSaid : Prop := tableFewestUptoRow.holds Tryz.pinned (OpenSpec.upto tableFewestSpec)

/-- 'saccharumlaw02.TableChanged', WHERE WHAT IT READS IS OF BULK AT MOST 1048576: true; the input reads as it did. -/
def tableChangedUptoRow : OpenClaim := { program := "ytjikkfiohppnfaagreat", sum := "59ad50cfee0ee0643736560a43913265fc22ac3a4ab48c6b8bc61a609ca4d37c", func := "saccharum/saccharumlaw02.TableChanged", spec := "tableChanged", unfollowed := true, recurses := true, plainKeys := false, apart := false, narrowed := true }
def TableChangedUptoSaid : Prop := tableChangedUptoRow.holds Tryz.pinned (OpenSpec.upto tableChangedSpec)

/-- 'saccharumlaw02.TableHigher', WHERE WHAT IT READS IS OF BULK AT MOST 1048576: true; the input reads as it did. -/
def tableHigherUptoRow : OpenClaim := { program := "ytjikkfiohppnfaagreat", sum := "59ad50cfee0ee0643736560a43913265fc22ac3a4ab48c6b8bc61a609ca4d37c", func := "saccharum/saccharumlaw02.TableHigher", spec := "tableHigher", unfollowed := true, recurses := true, plainKeys := false, apart := false, narrowed := true }
def TableHigherUptoSaid : Prop := tableHigherUptoRow.holds Tryz.pinned (OpenSpec.upto tableHigherSpec)

/-- 'saccharumlaw02.TableTurned', WHERE WHAT IT READS IS OF BULK AT MOST 1048576: true; the input reads as it did. -/
def tableTurnedUptoRow : OpenClaim := { program := "ytjikkfiohppnfaagreat", sum := "59ad50cfee0ee0643736560a43913265fc22ac3a4ab48c6b8bc61a609ca4d37c", func := "saccharum/saccharumlaw02.TableTurned", spec := "tableTurned", unfollowed := true, recurses := true, plainKeys := false, apart := false, narrowed := true }
def TableTurnedUptoSaid : Prop := tableTurnedUptoRow.holds Tryz.pinned (OpenSpec.upto tableTurnedSpec)

/-- 'saccharumlaw02.TableWider', WHERE WHAT IT READS IS OF BULK AT MOST 1048576: true; the input reads as it did. -/
def tableWiderUptoRow : OpenClaim := { program := "ytjikkfiohppnfaagreat", sum := "59ad50cfee0ee0643736560a43913265fc22ac3a4ab48c6b8bc61a609ca4d37c", func := "saccharum/saccharumlaw02.TableWider", spec := "tableWider", unfollowed := true, recurses := true, plainKeys := false, apart := false, narrowed := true }
def TableWiderUptoSaid : Prop := tableWiderUptoRow.holds Tryz.pinned (OpenSpec.upto tableWiderSpec)

/-- 'saccharumlaw02.TableThinned', WHERE WHAT IT READS IS OF BULK AT MOST 1048576: true; the input reads as it did. -/
def tableThinnedUptoRow : OpenClaim := { program := "ytjikkfiohppnfaagreat", sum := "59ad50cfee0ee0643736560a43913265fc22ac3a4ab48c6b8bc61a609ca4d37c", func := "saccharum/saccharumlaw02.TableThinned", spec := "tableThinned", unfollowed := true, recurses := true, plainKeys := false, apart := false, narrowed := true }
def TableThinnedUptoSaid : Prop := tableThinnedUptoRow.holds Tryz.pinned (OpenSpec.upto tableThinnedSpec)

end Rows
end Go.Proofs.YtjikkfiohppnfaaGreat
