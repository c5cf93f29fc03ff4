/-
  No cell of these rows narrows 'for every input' (looked for: loops, veiled, ifaces, maps, wideKeys, modest, calm, conditions, laid).
  DERIVED. THE GIVEN ROWS OF THIS SEAT. 13 by the template 'for every input the law returns true; each argument reads behind the call as it read before'; 0 by the template 'total and deterministic' (their statements: YtjagobcogkdfhaaTotals.lean).
  GIVEN WITH THE SEED: the statements are not yours to turn. If you find one false, say at which input.
  Laid BY PROGRAM, IN A SANDBOX (cutbox-rows.mjs): the forced cells as the released guide's own fill.sh prints them over the translation c1d48df407c10d55… (all of the seat's roots in one cut). By AI agents, Wed Nov 11 2026. No macro, syntax, notation, axiom, sorry.
-/
import Derived.Test.YtjagobcogkdfhaaChecked
import GoSem.Claim
import GoSem.ClaimJoined
import GoSem.ClaimMapViews
import Derived.JoinedTies
import Derived.KernelRfl
namespace Go.Proofs.Ytjagobcogkdfhaa
/- THE CELL 'sum', in the pinned program and in every row, IS THE sha256 OF THE DUMP (.gsa) THAT YtjagobcogkdfhaaProg.lean LOADS. Nothing in Lean hashes anything: it is a label: what it is worth is what the hold of that sum in a sandbox is worth. -/
noncomputable def Try.pinned : Pinned := { name := "ytjagobcogkdfhaa", sum := "c1d48df407c10d55693a0736093650001db65a1a7f375c3239ce8e8a16143f9a", checked := Try.checked }
namespace Rows
def none {H : Type} : Left H := { results := [], args := [] }

/-- 'laws.FnScans': WHATEVER THE INPUT: true; the input reads as it did. -/
def fnScansSpec : ChangeSpec := { name := "fnScans", fn := fun _ => fun
  | [d] => { results := [.lit (.bool true)], args := [d] }
  | _ => none }
def fnScansRow : OpenClaim := { program := "ytjagobcogkdfhaa", sum := "c1d48df407c10d55693a0736093650001db65a1a7f375c3239ce8e8a16143f9a", func := "loop.example/g00270/laws.FnScans", spec := "fnScans", plainKeys := false, apart := false }
def FnScansSaid : Prop := fnScansRow.holds Try.pinned (OpenSpec.ofChange fnScansSpec)

/-- ITS FALSE NEIGHBOUR: 'it returns false'. Refute it at one input. -/
def fnScansWrong : ChangeSpec := { name := "fnScans", fn := fun _ => fun
  | [d] => { results := [.lit (.bool false)], args := [d] }
  | _ => none }
def FnScansWrongFalsely : Prop := fnScansRow.holds Try.pinned (OpenSpec.ofChange fnScansWrong)

/-- 'laws.FnEdges': WHATEVER THE INPUT: true; the input reads as it did. -/
def fnEdgesSpec : ChangeSpec := { name := "fnEdges", fn := fun _ => fun
  | [d] => { results := [.lit (.bool true)], args := [d] }
  | _ => none }
def fnEdgesRow : OpenClaim := { program := "ytjagobcogkdfhaa", sum := "c1d48df407c10d55693a0736093650001db65a1a7f375c3239ce8e8a16143f9a", func := "loop.example/g00270/laws.FnEdges", spec := "fnEdges", unfollowed := true, recurses := true, plainKeys := false, apart := false }
def FnEdgesSaid : Prop := fnEdgesRow.holds Try.pinned (OpenSpec.ofChange fnEdgesSpec)

/-- ITS FALSE NEIGHBOUR: 'it returns false'. Refute it at one input. -/
def fnEdgesWrong : ChangeSpec := { name := "fnEdges", fn := fun _ => fun
  | [d] => { results := [.lit (.bool false)], args := [d] }
  | _ => none }
def FnEdgesWrongFalsely : Prop := fnEdgesRow.holds Try.pinned (OpenSpec.ofChange fnEdgesWrong)

/-- 'laws.FnCycles': WHATEVER THE INPUT: true; the input reads as it did. -/
def fnCyclesSpec : ChangeSpec := { name := "fnCycles", fn := fun _ => fun
  | [d] => { results := [.lit (.bool true)], args := [d] }
  | _ => none }
def fnCyclesRow : OpenClaim := { program := "ytjagobcogkdfhaa", sum := "c1d48df407c10d55693a0736093650001db65a1a7f375c3239ce8e8a16143f9a", func := "loop.example/g00270/laws.FnCycles", spec := "fnCycles", unfollowed := true, recurses := true, plainKeys := false, apart := false }
def FnCyclesSaid : Prop := fnCyclesRow.holds Try.pinned (OpenSpec.ofChange fnCyclesSpec)

/-- ITS FALSE NEIGHBOUR: 'it returns false'. Refute it at one input. -/
def fnCyclesWrong : ChangeSpec := { name := "fnCycles", fn := fun _ => fun
  | [d] => { results := [.lit (.bool false)], args := [d] }
  | _ => none }
def FnCyclesWrongFalsely : Prop := fnCyclesRow.holds Try.pinned (OpenSpec.ofChange fnCyclesWrong)

/-- 'laws.FnSets': WHATEVER THE INPUT: true; the input reads as it did. -/
def fnSetsSpec : ChangeSpec := { name := "fnSets", fn := fun _ => fun
  | [d] => { results := [.lit (.bool true)], args := [d] }
  | _ => none }
def fnSetsRow : OpenClaim := { program := "ytjagobcogkdfhaa", sum := "c1d48df407c10d55693a0736093650001db65a1a7f375c3239ce8e8a16143f9a", func := "loop.example/g00270/laws.FnSets", spec := "fnSets", inPlace := ["slices.overlaps[loop.example/g00270/impl.Row]", "slices.overlaps[loop.example/g00270/impl.Leaf]"], unfollowed := true, recurses := true, plainKeys := false, apart := false }
def FnSetsSaid : Prop := fnSetsRow.holds Try.pinned (OpenSpec.ofChange fnSetsSpec)

/-- ITS FALSE NEIGHBOUR: 'it returns false'. Refute it at one input. -/
def fnSetsWrong : ChangeSpec := { name := "fnSets", fn := fun _ => fun
  | [d] => { results := [.lit (.bool false)], args := [d] }
  | _ => none }
def FnSetsWrongFalsely : Prop := fnSetsRow.holds Try.pinned (OpenSpec.ofChange fnSetsWrong)

/-- 'laws.FnUndos': WHATEVER THE INPUT: true; the input reads as it did. -/
def fnUndosSpec : ChangeSpec := { name := "fnUndos", fn := fun _ => fun
  | [d] => { results := [.lit (.bool true)], args := [d] }
  | _ => none }
def fnUndosRow : OpenClaim := { program := "ytjagobcogkdfhaa", sum := "c1d48df407c10d55693a0736093650001db65a1a7f375c3239ce8e8a16143f9a", func := "loop.example/g00270/laws.FnUndos", spec := "fnUndos", inPlace := ["slices.overlaps[loop.example/g00270/impl.Row]", "slices.overlaps[loop.example/g00270/impl.Leaf]"], unfollowed := true, recurses := true, plainKeys := false, apart := false }
def FnUndosSaid : Prop := fnUndosRow.holds Try.pinned (OpenSpec.ofChange fnUndosSpec)

/-- ITS FALSE NEIGHBOUR: 'it returns false'. Refute it at one input. -/
def fnUndosWrong : ChangeSpec := { name := "fnUndos", fn := fun _ => fun
  | [d] => { results := [.lit (.bool false)], args := [d] }
  | _ => none }
def FnUndosWrongFalsely : Prop := fnUndosRow.holds Try.pinned (OpenSpec.ofChange fnUndosWrong)

/-- 'laws.FnExactCycleFrom': WHATEVER THE INPUT: true; the input reads as it did. -/
def fnExactCycleFromSpec : ChangeSpec := { name := "fnExactCycleFrom", fn := fun _ => fun
  | [d1, d2] => { results := [.lit (.bool true)], args := [d1, d2] }
  | _ => none }
def fnExactCycleFromRow : OpenClaim := { program := "ytjagobcogkdfhaa", sum := "c1d48df407c10d55693a0736093650001db65a1a7f375c3239ce8e8a16143f9a", func := "loop.example/g00270/laws.FnExactCycleFrom", spec := "fnExactCycleFrom", unfollowed := true, recurses := true, plainKeys := false, apart := false }
def FnExactCycleFromSaid : Prop := fnExactCycleFromRow.holds Try.pinned (OpenSpec.ofChange fnExactCycleFromSpec)

/-- ITS FALSE NEIGHBOUR: 'it returns false'. Refute it at one input. -/
def fnExactCycleFromWrong : ChangeSpec := { name := "fnExactCycleFrom", fn := fun _ => fun
  | [d1, d2] => { results := [.lit (.bool false)], args := [d1, d2] }
  | _ => none }
def FnExactCycleFromWrongFalsely : Prop := fnExactCycleFromRow.holds Try.pinned (OpenSpec.ofChange fnExactCycleFromWrong)

/-- 'laws.FnExactHasCycle': WHATEVER THE INPUT: true; the input reads as it did. -/
def fnExactHasCycleSpec : ChangeSpec := { name := "fnExactHasCycle", fn := fun _ => fun
  | [d] => { results := [.lit (.bool true)], args := [d] }
  | _ => none }
def fnExactHasCycleRow : OpenClaim := { program := "ytjagobcogkdfhaa", sum := "c1d48df407c10d55693a0736093650001db65a1a7f375c3239ce8e8a16143f9a", func := "loop.example/g00270/laws.FnExactHasCycle", spec := "fnExactHasCycle", unfollowed := true, recurses := true, plainKeys := false, apart := false }
def FnExactHasCycleSaid : Prop := fnExactHasCycleRow.holds Try.pinned (OpenSpec.ofChange fnExactHasCycleSpec)

/-- ITS FALSE NEIGHBOUR: 'it returns false'. Refute it at one input. -/
def fnExactHasCycleWrong : ChangeSpec := { name := "fnExactHasCycle", fn := fun _ => fun
  | [d] => { results := [.lit (.bool false)], args := [d] }
  | _ => none }
def FnExactHasCycleWrongFalsely : Prop := fnExactHasCycleRow.holds Try.pinned (OpenSpec.ofChange fnExactHasCycleWrong)

/-- 'laws.FnExactBeforesFault': WHATEVER THE INPUT: true; the input reads as it did. -/
def fnExactBeforesFaultSpec : ChangeSpec := { name := "fnExactBeforesFault", fn := fun _ => fun
  | [d] => { results := [.lit (.bool true)], args := [d] }
  | _ => none }
def fnExactBeforesFaultRow : OpenClaim := { program := "ytjagobcogkdfhaa", sum := "c1d48df407c10d55693a0736093650001db65a1a7f375c3239ce8e8a16143f9a", func := "loop.example/g00270/laws.FnExactBeforesFault", spec := "fnExactBeforesFault", plainKeys := false, apart := false }
def FnExactBeforesFaultSaid : Prop := fnExactBeforesFaultRow.holds Try.pinned (OpenSpec.ofChange fnExactBeforesFaultSpec)

/-- ITS FALSE NEIGHBOUR: 'it returns false'. Refute it at one input. -/
def fnExactBeforesFaultWrong : ChangeSpec := { name := "fnExactBeforesFault", fn := fun _ => fun
  | [d] => { results := [.lit (.bool false)], args := [d] }
  | _ => none }
def FnExactBeforesFaultWrongFalsely : Prop := fnExactBeforesFaultRow.holds Try.pinned (OpenSpec.ofChange fnExactBeforesFaultWrong)

/-- 'laws.FnExactValueIn': WHATEVER THE INPUT: true; the input reads as it did. -/
def fnExactValueInSpec : ChangeSpec := { name := "fnExactValueIn", fn := fun _ => fun
  | [d1, d2] => { results := [.lit (.bool true)], args := [d1, d2] }
  | _ => none }
def fnExactValueInRow : OpenClaim := { program := "ytjagobcogkdfhaa", sum := "c1d48df407c10d55693a0736093650001db65a1a7f375c3239ce8e8a16143f9a", func := "loop.example/g00270/laws.FnExactValueIn", spec := "fnExactValueIn", plainKeys := false, apart := false }
def FnExactValueInSaid : Prop := fnExactValueInRow.holds Try.pinned (OpenSpec.ofChange fnExactValueInSpec)

/-- ITS FALSE NEIGHBOUR: 'it returns false'. Refute it at one input. -/
def fnExactValueInWrong : ChangeSpec := { name := "fnExactValueIn", fn := fun _ => fun
  | [d1, d2] => { results := [.lit (.bool false)], args := [d1, d2] }
  | _ => none }
def FnExactValueInWrongFalsely : Prop := fnExactValueInRow.holds Try.pinned (OpenSpec.ofChange fnExactValueInWrong)

/-- 'laws.FnExactSetValue': WHATEVER THE INPUT: true; the input reads as it did. -/
def fnExactSetValueSpec : ChangeSpec := { name := "fnExactSetValue", fn := fun _ => fun
  | [d1, d2, d3, d4, d5] => { results := [.lit (.bool true)], args := [d1, d2, d3, d4, d5] }
  | _ => none }
def fnExactSetValueRow : OpenClaim := { program := "ytjagobcogkdfhaa", sum := "c1d48df407c10d55693a0736093650001db65a1a7f375c3239ce8e8a16143f9a", func := "loop.example/g00270/laws.FnExactSetValue", spec := "fnExactSetValue", inPlace := ["slices.overlaps[loop.example/g00270/impl.Row]", "slices.overlaps[loop.example/g00270/impl.Leaf]"], plainKeys := false, apart := false }
def FnExactSetValueSaid : Prop := fnExactSetValueRow.holds Try.pinned (OpenSpec.ofChange fnExactSetValueSpec)

/-- ITS FALSE NEIGHBOUR: 'it returns false'. Refute it at one input. -/
def fnExactSetValueWrong : ChangeSpec := { name := "fnExactSetValue", fn := fun _ => fun
  | [d1, d2, d3, d4, d5] => { results := [.lit (.bool false)], args := [d1, d2, d3, d4, d5] }
  | _ => none }
def FnExactSetValueWrongFalsely : Prop := fnExactSetValueRow.holds Try.pinned (OpenSpec.ofChange fnExactSetValueWrong)

/-- 'laws.FnExactUndoAll': WHATEVER THE INPUT: true; the input reads as it did. -/
def fnExactUndoAllSpec : ChangeSpec := { name := "fnExactUndoAll", fn := fun _ => fun
  | [d1, d2, d3] => { results := [.lit (.bool true)], args := [d1, d2, d3] }
  | _ => none }
def fnExactUndoAllRow : OpenClaim := { program := "ytjagobcogkdfhaa", sum := "c1d48df407c10d55693a0736093650001db65a1a7f375c3239ce8e8a16143f9a", func := "loop.example/g00270/laws.FnExactUndoAll", spec := "fnExactUndoAll", inPlace := ["slices.overlaps[loop.example/g00270/impl.Row]", "slices.overlaps[loop.example/g00270/impl.Leaf]"], unfollowed := true, recurses := true, plainKeys := false, apart := false }
def FnExactUndoAllSaid : Prop := fnExactUndoAllRow.holds Try.pinned (OpenSpec.ofChange fnExactUndoAllSpec)

/-- ITS FALSE NEIGHBOUR: 'it returns false'. Refute it at one input. -/
def fnExactUndoAllWrong : ChangeSpec := { name := "fnExactUndoAll", fn := fun _ => fun
  | [d1, d2, d3] => { results := [.lit (.bool false)], args := [d1, d2, d3] }
  | _ => none }
def FnExactUndoAllWrongFalsely : Prop := fnExactUndoAllRow.holds Try.pinned (OpenSpec.ofChange fnExactUndoAllWrong)

/-- 'laws.FnExactMapOfRows': WHATEVER THE INPUT: true; the input reads as it did. -/
def fnExactMapOfRowsSpec : ChangeSpec := { name := "fnExactMapOfRows", fn := fun _ => fun
  | [d] => { results := [.lit (.bool true)], args := [d] }
  | _ => none }
def fnExactMapOfRowsRow : OpenClaim := { program := "ytjagobcogkdfhaa", sum := "c1d48df407c10d55693a0736093650001db65a1a7f375c3239ce8e8a16143f9a", func := "loop.example/g00270/laws.FnExactMapOfRows", spec := "fnExactMapOfRows", plainKeys := false, apart := false }
def FnExactMapOfRowsSaid : Prop := fnExactMapOfRowsRow.holds Try.pinned (OpenSpec.ofChange fnExactMapOfRowsSpec)

/-- ITS FALSE NEIGHBOUR: 'it returns false'. Refute it at one input. -/
def fnExactMapOfRowsWrong : ChangeSpec := { name := "fnExactMapOfRows", fn := fun _ => fun
  | [d] => { results := [.lit (.bool false)], args := [d] }
  | _ => none }
def FnExactMapOfRowsWrongFalsely : Prop := fnExactMapOfRowsRow.holds Try.pinned (OpenSpec.ofChange fnExactMapOfRowsWrong)

/-- 'laws.FnExactBeforeOf': WHATEVER THE INPUT: true; the input reads as it did. -/
def fnExactBeforeOfSpec : ChangeSpec := { name := "fnExactBeforeOf", fn := fun _ => fun
  | [d1, d2] => { results := [.lit (.bool true)], args := [d1, d2] }
  | _ => none }
def fnExactBeforeOfRow : OpenClaim := { program := "ytjagobcogkdfhaa", sum := "c1d48df407c10d55693a0736093650001db65a1a7f375c3239ce8e8a16143f9a", func := "loop.example/g00270/laws.FnExactBeforeOf", spec := "fnExactBeforeOf", plainKeys := false, apart := false }
def FnExactBeforeOfSaid : Prop := fnExactBeforeOfRow.holds Try.pinned (OpenSpec.ofChange fnExactBeforeOfSpec)

/-- ITS FALSE NEIGHBOUR: 'it returns false'. Refute it at one input. -/
def fnExactBeforeOfWrong : ChangeSpec := { name := "fnExactBeforeOf", fn := fun _ => fun
  | [d1, d2] => { results := [.lit (.bool false)], args := [d1, d2] }
  | _ => none }
def FnExactBeforeOfWrongFalsely : Prop := fnExactBeforeOfRow.holds Try.pinned (OpenSpec.ofChange fnExactBeforeOfWrong)

/- THE SECOND FORM. 'bulk': how many values and letters a reading holds, each counted each time it is reached (what is shared counts as often as it is met; a slice's spare places count too). A statement '..UptoSaid' is the law's where the arguments, and the package variables that the reading takes, are together of bulk at most 1048576: NARROWER than '..Said'. Prove '..Said' where nothing that the law and all that it calls make is longer than what came in: it says more and counts as full. Else prove '..UptoSaid'. A law counts once. -/
mutual
def uptoBulk {H : Type} : DataW H → Nat
  | .lit (.string bytes) => bytes.length + 1
  | .lit _ => 1
  | .nil => 1
  | .ptr d => uptoBulk d + 1
  | .slice elems spare => uptoBulkAll elems + uptoBulkAll spare + 1
  | .agg parts => uptoBulkAll parts + 1
  | .iface _ d => uptoBulk d + 1
  | .map entries => uptoBulkEntries entries + 1
  | .held _ => 1
def uptoBulkAll {H : Type} : List (DataW H) → Nat
  | [] => 0
  | d :: r => uptoBulk d + uptoBulkAll r
def uptoBulkEntries {H : Type} : List (Lit × DataW H) → Nat
  | [] => 0
  | x :: r => uptoBulkEntry x + uptoBulkEntries r
def uptoBulkEntry {H : Type} : Lit × DataW H → Nat
  | (.string bytes, d) => bytes.length + uptoBulk d + 1
  | (_, d) => uptoBulk d + 1
 end
def uptoSmall : (H : Type) → List (DataW H) → Bool := fun _ ds => decide (uptoBulkAll ds ≤ 1048576)
def OpenSpec.upto (s : _root_.Go.ChangeSpec) : _root_.Go.OpenSpec := { _root_.Go.OpenSpec.ofChange s with cond := some uptoSmall }

/-- 'laws.FnScans', WHERE WHAT IT READS IS OF BULK AT MOST 1048576: true; the input reads as it did. -/
def fnScansUptoRow : OpenClaim := { program := "ytjagobcogkdfhaa", sum := "c1d48df407c10d55693a0736093650001db65a1a7f375c3239ce8e8a16143f9a", func := "loop.example/g00270/laws.FnScans", spec := "fnScans", plainKeys := false, apart := false, narrowed := true }
def FnScansUptoSaid : Prop := fnScansUptoRow.holds Try.pinned (OpenSpec.upto fnScansSpec)

/-- 'laws.FnEdges', WHERE WHAT IT READS IS OF BULK AT MOST 1048576: true; the input reads as it did. -/
def fnEdgesUptoRow : OpenClaim := { program := "ytjagobcogkdfhaa", sum := "c1d48df407c10d55693a0736093650001db65a1a7f375c3239ce8e8a16143f9a", func := "loop.example/g00270/laws.FnEdges", spec := "fnEdges", unfollowed := true, recurses := true, plainKeys := false, apart := false, narrowed := true }
def FnEdgesUptoSaid : Prop := fnEdgesUptoRow.holds Try.pinned (OpenSpec.upto fnEdgesSpec)

/-- 'laws.FnCycles', WHERE WHAT IT READS IS OF BULK AT MOST 1048576: true; the input reads as it did. -/
def fnCyclesUptoRow : OpenClaim := { program := "ytjagobcogkdfhaa", sum := "c1d48df407c10d55693a0736093650001db65a1a7f375c3239ce8e8a16143f9a", func := "loop.example/g00270/laws.FnCycles", spec := "fnCycles", unfollowed := true, recurses := true, plainKeys := false, apart := false, narrowed := true }
def FnCyclesUptoSaid : Prop := fnCyclesUptoRow.holds Try.pinned (OpenSpec.upto fnCyclesSpec)

/-- 'laws.FnSets', WHERE WHAT IT READS IS OF BULK AT MOST 1048576: true; the input reads as it did. -/
def fnSetsUptoRow : OpenClaim := { program := "ytjagobcogkdfhaa", sum := "c1d48df407c10d55693a0736093650001db65a1a7f375c3239ce8e8a16143f9a", func := "loop.example/g00270/laws.FnSets", spec := "fnSets", inPlace := ["slices.overlaps[loop.example/g00270/impl.Row]", "slices.overlaps[loop.example/g00270/impl.Leaf]"], unfollowed := true, recurses := true, plainKeys := false, apart := false, narrowed := true }
def FnSetsUptoSaid : Prop := fnSetsUptoRow.holds Try.pinned (OpenSpec.upto fnSetsSpec)

/-- 'laws.FnUndos', WHERE WHAT IT READS IS OF BULK AT MOST 1048576: true; the input reads as it did. -/
def fnUndosUptoRow : OpenClaim := { program := "ytjagobcogkdfhaa", sum := "c1d48df407c10d55693a0736093650001db65a1a7f375c3239ce8e8a16143f9a", func := "loop.example/g00270/laws.FnUndos", spec := "fnUndos", inPlace := ["slices.overlaps[loop.example/g00270/impl.Row]", "slices.overlaps[loop.example/g00270/impl.Leaf]"], unfollowed := true, recurses := true, plainKeys := false, apart := false, narrowed := true }
def FnUndosUptoSaid : Prop := fnUndosUptoRow.holds Try.pinned (OpenSpec.upto fnUndosSpec)

/-- 'laws.FnExactCycleFrom', WHERE WHAT IT READS IS OF BULK AT MOST 1048576: true; the input reads as it did. -/
def fnExactCycleFromUptoRow : OpenClaim := { program := "ytjagobcogkdfhaa", sum := "c1d48df407c10d55693a0736093650001db65a1a7f375c3239ce8e8a16143f9a", func := "loop.example/g00270/laws.FnExactCycleFrom", spec := "fnExactCycleFrom", unfollowed := true, recurses := true, plainKeys := false, apart := false, narrowed := true }
def FnExactCycleFromUptoSaid : Prop := fnExactCycleFromUptoRow.holds Try.pinned (OpenSpec.upto fnExactCycleFromSpec)

/-- 'laws.FnExactHasCycle', WHERE WHAT IT READS IS OF BULK AT MOST 1048576: true; the input reads as it did. -/
def fnExactHasCycleUptoRow : OpenClaim := { program := "ytjagobcogkdfhaa", sum := "c1d48df407c10d55693a0736093650001db65a1a7f375c3239ce8e8a16143f9a", func := "loop.example/g00270/laws.FnExactHasCycle", spec := "fnExactHasCycle", unfollowed := true, recurses := true, plainKeys := false, apart := false, narrowed := true }
def FnExactHasCycleUptoSaid : Prop := fnExactHasCycleUptoRow.holds Try.pinned (OpenSpec.upto fnExactHasCycleSpec)

/-- 'laws.FnExactBeforesFault', WHERE WHAT IT READS IS OF BULK AT MOST 1048576: true; the input reads as it did. -/
def fnExactBeforesFaultUptoRow : OpenClaim := { program := "ytjagobcogkdfhaa", sum := "c1d48df407c10d55693a0736093650001db65a1a7f375c3239ce8e8a16143f9a", func := "loop.example/g00270/laws.FnExactBeforesFault", spec := "fnExactBeforesFault", plainKeys := false, apart := false, narrowed := true }
def FnExactBeforesFaultUptoSaid : Prop := fnExactBeforesFaultUptoRow.holds Try.pinned (OpenSpec.upto fnExactBeforesFaultSpec)

/-- 'laws.FnExactValueIn', WHERE WHAT IT READS IS OF BULK AT MOST 1048576: true; the input reads as it did. -/
def fnExactValueInUptoRow : OpenClaim := { program := "ytjagobcogkdfhaa", sum := "c1d48df407c10d55693a0736093650001db65a1a7f375c3239ce8e8a16143f9a", func := "loop.example/g00270/laws.FnExactValueIn", spec := "fnExactValueIn", plainKeys := false, apart := false, narrowed := true }
def FnExactValueInUptoSaid : Prop := fnExactValueInUptoRow.holds Try.pinned (OpenSpec.upto fnExactValueInSpec)

/-- 'laws.FnExactSetValue', WHERE WHAT IT READS IS OF BULK AT MOST 1048576: true; the input reads as it did. -/
def fnExactSetValueUptoRow : OpenClaim := { program := "ytjagobcogkdfhaa", sum := "c1d48df407c10d55693a0736093650001db65a1a7f375c3239ce8e8a16143f9a", func := "loop.example/g00270/laws.FnExactSetValue", spec := "fnExactSetValue", inPlace := ["slices.overlaps[loop.example/g00270/impl.Row]", "slices.overlaps[loop.example/g00270/impl.Leaf]"], plainKeys := false, apart := false, narrowed := true }
def FnExactSetValueUptoSaid : Prop := fnExactSetValueUptoRow.holds Try.pinned (OpenSpec.upto fnExactSetValueSpec)

/-- 'laws.FnExactUndoAll', WHERE WHAT IT READS IS OF BULK AT MOST 1048576: true; the input reads as it did. -/
def fnExactUndoAllUptoRow : OpenClaim := { program := "ytjagobcogkdfhaa", sum := "c1d48df407c10d55693a0736093650001db65a1a7f375c3239ce8e8a16143f9a", func := "loop.example/g00270/laws.FnExactUndoAll", spec := "fnExactUndoAll", inPlace := ["slices.overlaps[loop.example/g00270/impl.Row]", "slices.overlaps[loop.example/g00270/impl.Leaf]"], unfollowed := true, recurses := true, plainKeys := false, apart := false, narrowed := true }
def FnExactUndoAllUptoSaid : Prop := fnExactUndoAllUptoRow.holds Try.pinned (OpenSpec.upto fnExactUndoAllSpec)

/-- 'laws.FnExactMapOfRows', WHERE WHAT IT READS IS OF BULK AT MOST 1048576: true; the input reads as it did. -/
def fnExactMapOfRowsUptoRow : OpenClaim := { program := "ytjagobcogkdfhaa", sum := "c1d48df407c10d55693a0736093650001db65a1a7f375c3239ce8e8a16143f9a", func := "loop.example/g00270/laws.FnExactMapOfRows", spec := "fnExactMapOfRows", plainKeys := false, apart := false, narrowed := true }
def FnExactMapOfRowsUptoSaid : Prop := fnExactMapOfRowsUptoRow.holds Try.pinned (OpenSpec.upto fnExactMapOfRowsSpec)

/-- 'laws.FnExactBeforeOf', WHERE WHAT IT READS IS OF BULK AT MOST 1048576: true; the input reads as it did. -/
def fnExactBeforeOfUptoRow : OpenClaim := { program := "ytjagobcogkdfhaa", sum := "c1d48df407c10d55693a0736093650001db65a1a7f375c3239ce8e8a16143f9a", func := "loop.example/g00270/laws.FnExactBeforeOf", spec := "fnExactBeforeOf", plainKeys := false, apart := false, narrowed := true }
def FnExactBeforeOfUptoSaid : Prop := fnExactBeforeOfUptoRow.holds Try.pinned (OpenSpec.upto fnExactBeforeOfSpec)

end Rows
end Go.Proofs.Ytjagobcogkdfhaa
