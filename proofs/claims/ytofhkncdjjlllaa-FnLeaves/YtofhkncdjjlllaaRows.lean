/-
  No cell of these rows narrows 'for every input' (looked for: loops, veiled, ifaces, maps, wideKeys, modest, calm, conditions, laid).
  DERIVED. THE GIVEN ROWS OF THIS SEAT. 8 by the template 'for every input the law returns true; each argument reads behind the call as it read before'; 0 by the template 'total and deterministic' (their statements: YtofhkncdjjlllaaTotals.lean).
  GIVEN WITH THE SEED: the statements are not yours to turn. If you find one false, say at which input.
  Laid BY PROGRAM, IN A SANDBOX (cutbox-rows.mjs): the forced cells as the released guide's own fill.sh prints them over the translation 1f444bd5cec5f1e0… (all of the seat's roots in one cut). By AI agents, Wed Nov 11 2026. No macro, syntax, notation, axiom, sorry.
-/
import Derived.Test.YtofhkncdjjlllaaChecked
import GoSem.Claim
import GoSem.ClaimJoined
import GoSem.ClaimMapViews
import Derived.JoinedTies
import Derived.KernelRfl
namespace Go.Proofs.Ytofhkncdjjlllaa
/- THE CELL 'sum', in the pinned program and in every row, IS THE sha256 OF THE DUMP (.gsa) THAT YtofhkncdjjlllaaProg.lean LOADS. Nothing in Lean hashes anything: it is a label: what it is worth is what the hold of that sum in a sandbox is worth. -/
noncomputable def Try.pinned : Pinned := { name := "ytofhkncdjjlllaa", sum := "1f444bd5cec5f1e0a7e9f15aac37588442fab1fc3c329d1f533685bd42e8282e", checked := Try.checked }
namespace Rows
def none {H : Type} : Left H := { results := [], args := [] }

/-- 'laws.FnLogs': WHATEVER THE INPUT: true; the input reads as it did. -/
def fnLogsSpec : ChangeSpec := { name := "fnLogs", fn := fun _ => fun
  | [d] => { results := [.lit (.bool true)], args := [d] }
  | _ => none }
def fnLogsRow : OpenClaim := { program := "ytofhkncdjjlllaa", sum := "1f444bd5cec5f1e0a7e9f15aac37588442fab1fc3c329d1f533685bd42e8282e", func := "loop.example/g00270/laws.FnLogs", spec := "fnLogs", unfollowed := true, recurses := true, apart := false }
def FnLogsSaid : Prop := fnLogsRow.holds Try.pinned (OpenSpec.ofChange fnLogsSpec)

/-- ITS FALSE NEIGHBOUR: 'it returns false'. Refute it at one input. -/
def fnLogsWrong : ChangeSpec := { name := "fnLogs", fn := fun _ => fun
  | [d] => { results := [.lit (.bool false)], args := [d] }
  | _ => none }
def FnLogsWrongFalsely : Prop := fnLogsRow.holds Try.pinned (OpenSpec.ofChange fnLogsWrong)

/-- 'laws.FnLeaves': WHATEVER THE INPUT: true; the input reads as it did. -/
def fnLeavesSpec : ChangeSpec := { name := "fnLeaves", fn := fun _ => fun
  | [d] => { results := [.lit (.bool true)], args := [d] }
  | _ => none }
def fnLeavesRow : OpenClaim := { program := "ytofhkncdjjlllaa", sum := "1f444bd5cec5f1e0a7e9f15aac37588442fab1fc3c329d1f533685bd42e8282e", func := "loop.example/g00270/laws.FnLeaves", spec := "fnLeaves", inPlace := ["slices.overlaps[loop.example/g00270/impl.Row]", "slices.overlaps[loop.example/g00270/impl.Leaf]"], apart := false }
def FnLeavesSaid : Prop := fnLeavesRow.holds Try.pinned (OpenSpec.ofChange fnLeavesSpec)

/-- ITS FALSE NEIGHBOUR: 'it returns false'. Refute it at one input. -/
def fnLeavesWrong : ChangeSpec := { name := "fnLeaves", fn := fun _ => fun
  | [d] => { results := [.lit (.bool false)], args := [d] }
  | _ => none }
def FnLeavesWrongFalsely : Prop := fnLeavesRow.holds Try.pinned (OpenSpec.ofChange fnLeavesWrong)

/-- 'laws.FnMerges': WHATEVER THE INPUT: true; the input reads as it did. -/
def fnMergesSpec : ChangeSpec := { name := "fnMerges", fn := fun _ => fun
  | [d] => { results := [.lit (.bool true)], args := [d] }
  | _ => none }
def fnMergesRow : OpenClaim := { program := "ytofhkncdjjlllaa", sum := "1f444bd5cec5f1e0a7e9f15aac37588442fab1fc3c329d1f533685bd42e8282e", func := "loop.example/g00270/laws.FnMerges", spec := "fnMerges", inPlace := ["slices.overlaps[loop.example/g00270/impl.Leaf]"], apart := false }
def FnMergesSaid : Prop := fnMergesRow.holds Try.pinned (OpenSpec.ofChange fnMergesSpec)

/-- ITS FALSE NEIGHBOUR: 'it returns false'. Refute it at one input. -/
def fnMergesWrong : ChangeSpec := { name := "fnMerges", fn := fun _ => fun
  | [d] => { results := [.lit (.bool false)], args := [d] }
  | _ => none }
def FnMergesWrongFalsely : Prop := fnMergesRow.holds Try.pinned (OpenSpec.ofChange fnMergesWrong)

/-- 'laws.FnExactMergeLeaves': WHATEVER THE INPUT: true; the input reads as it did. -/
def fnExactMergeLeavesSpec : ChangeSpec := { name := "fnExactMergeLeaves", fn := fun _ => fun
  | [d1, d2] => { results := [.lit (.bool true)], args := [d1, d2] }
  | _ => none }
def fnExactMergeLeavesRow : OpenClaim := { program := "ytofhkncdjjlllaa", sum := "1f444bd5cec5f1e0a7e9f15aac37588442fab1fc3c329d1f533685bd42e8282e", func := "loop.example/g00270/laws.FnExactMergeLeaves", spec := "fnExactMergeLeaves", inPlace := ["slices.overlaps[loop.example/g00270/impl.Leaf]"], apart := false }
def FnExactMergeLeavesSaid : Prop := fnExactMergeLeavesRow.holds Try.pinned (OpenSpec.ofChange fnExactMergeLeavesSpec)

/-- ITS FALSE NEIGHBOUR: 'it returns false'. Refute it at one input. -/
def fnExactMergeLeavesWrong : ChangeSpec := { name := "fnExactMergeLeaves", fn := fun _ => fun
  | [d1, d2] => { results := [.lit (.bool false)], args := [d1, d2] }
  | _ => none }
def FnExactMergeLeavesWrongFalsely : Prop := fnExactMergeLeavesRow.holds Try.pinned (OpenSpec.ofChange fnExactMergeLeavesWrong)

/-- 'laws.FnExactEvenLeaves': WHATEVER THE INPUT: true; the input reads as it did. -/
def fnExactEvenLeavesSpec : ChangeSpec := { name := "fnExactEvenLeaves", fn := fun _ => fun
  | [d1, d2] => { results := [.lit (.bool true)], args := [d1, d2] }
  | _ => none }
def fnExactEvenLeavesRow : OpenClaim := { program := "ytofhkncdjjlllaa", sum := "1f444bd5cec5f1e0a7e9f15aac37588442fab1fc3c329d1f533685bd42e8282e", func := "loop.example/g00270/laws.FnExactEvenLeaves", spec := "fnExactEvenLeaves", inPlace := ["slices.overlaps[loop.example/g00270/impl.Leaf]"], apart := false }
def FnExactEvenLeavesSaid : Prop := fnExactEvenLeavesRow.holds Try.pinned (OpenSpec.ofChange fnExactEvenLeavesSpec)

/-- ITS FALSE NEIGHBOUR: 'it returns false'. Refute it at one input. -/
def fnExactEvenLeavesWrong : ChangeSpec := { name := "fnExactEvenLeaves", fn := fun _ => fun
  | [d1, d2] => { results := [.lit (.bool false)], args := [d1, d2] }
  | _ => none }
def FnExactEvenLeavesWrongFalsely : Prop := fnExactEvenLeavesRow.holds Try.pinned (OpenSpec.ofChange fnExactEvenLeavesWrong)

/-- 'laws.FnExactPackLeaves': WHATEVER THE INPUT: true; the input reads as it did. -/
def fnExactPackLeavesSpec : ChangeSpec := { name := "fnExactPackLeaves", fn := fun _ => fun
  | [d] => { results := [.lit (.bool true)], args := [d] }
  | _ => none }
def fnExactPackLeavesRow : OpenClaim := { program := "ytofhkncdjjlllaa", sum := "1f444bd5cec5f1e0a7e9f15aac37588442fab1fc3c329d1f533685bd42e8282e", func := "loop.example/g00270/laws.FnExactPackLeaves", spec := "fnExactPackLeaves", apart := false }
def FnExactPackLeavesSaid : Prop := fnExactPackLeavesRow.holds Try.pinned (OpenSpec.ofChange fnExactPackLeavesSpec)

/-- ITS FALSE NEIGHBOUR: 'it returns false'. Refute it at one input. -/
def fnExactPackLeavesWrong : ChangeSpec := { name := "fnExactPackLeaves", fn := fun _ => fun
  | [d] => { results := [.lit (.bool false)], args := [d] }
  | _ => none }
def FnExactPackLeavesWrongFalsely : Prop := fnExactPackLeavesRow.holds Try.pinned (OpenSpec.ofChange fnExactPackLeavesWrong)

/-- 'laws.FnExactFillOf': WHATEVER THE INPUT: true; the input reads as it did. -/
def fnExactFillOfSpec : ChangeSpec := { name := "fnExactFillOf", fn := fun _ => fun
  | [d] => { results := [.lit (.bool true)], args := [d] }
  | _ => none }
def fnExactFillOfRow : OpenClaim := { program := "ytofhkncdjjlllaa", sum := "1f444bd5cec5f1e0a7e9f15aac37588442fab1fc3c329d1f533685bd42e8282e", func := "loop.example/g00270/laws.FnExactFillOf", spec := "fnExactFillOf", apart := false }
def FnExactFillOfSaid : Prop := fnExactFillOfRow.holds Try.pinned (OpenSpec.ofChange fnExactFillOfSpec)

/-- ITS FALSE NEIGHBOUR: 'it returns false'. Refute it at one input. -/
def fnExactFillOfWrong : ChangeSpec := { name := "fnExactFillOf", fn := fun _ => fun
  | [d] => { results := [.lit (.bool false)], args := [d] }
  | _ => none }
def FnExactFillOfWrongFalsely : Prop := fnExactFillOfRow.holds Try.pinned (OpenSpec.ofChange fnExactFillOfWrong)

/-- 'laws.FnExactSameRows': WHATEVER THE INPUT: true; the input reads as it did. -/
def fnExactSameRowsSpec : ChangeSpec := { name := "fnExactSameRows", fn := fun _ => fun
  | [d1, d2] => { results := [.lit (.bool true)], args := [d1, d2] }
  | _ => none }
def fnExactSameRowsRow : OpenClaim := { program := "ytofhkncdjjlllaa", sum := "1f444bd5cec5f1e0a7e9f15aac37588442fab1fc3c329d1f533685bd42e8282e", func := "loop.example/g00270/laws.FnExactSameRows", spec := "fnExactSameRows", apart := false }
def FnExactSameRowsSaid : Prop := fnExactSameRowsRow.holds Try.pinned (OpenSpec.ofChange fnExactSameRowsSpec)

/-- ITS FALSE NEIGHBOUR: 'it returns false'. Refute it at one input. -/
def fnExactSameRowsWrong : ChangeSpec := { name := "fnExactSameRows", fn := fun _ => fun
  | [d1, d2] => { results := [.lit (.bool false)], args := [d1, d2] }
  | _ => none }
def FnExactSameRowsWrongFalsely : Prop := fnExactSameRowsRow.holds Try.pinned (OpenSpec.ofChange fnExactSameRowsWrong)

/- THE SECOND FORM. 'bulk': how many values and letters a reading holds, each counted each time it is reached (what is shared counts as often as it is met; a slice's spare places count too). A statement '..UptoSaid' is the law's where the arguments, and the package variables that the reading takes, are together of bulk at most 1048576: NARROWER than '..Said'. Prove '..Said' where nothing that the law and all that it calls make is longer than what came in: it says more and counts as full. Else prove '..UptoSaid'. A law counts once. -/
mutual
def uptoBulk {H : Type} : DataW H → Nat
  | .lit (.string bytes) => bytes.length + 1
  | .lit _ => 1
  | .nil => 1
  | .ptr d => uptoBulk d + 1
  | .slice elems spare => uptoBulkAll elems + uptoBulkAll spare + 1
  | .agg parts => uptoBulkAll parts + 1
  | .iface _ d => uptoBulk d + 1
  | .map entries => uptoBulkEntries entries + 1
  | .held _ => 1
def uptoBulkAll {H : Type} : List (DataW H) → Nat
  | [] => 0
  | d :: r => uptoBulk d + uptoBulkAll r
def uptoBulkEntries {H : Type} : List (Lit × DataW H) → Nat
  | [] => 0
  | x :: r => uptoBulkEntry x + uptoBulkEntries r
def uptoBulkEntry {H : Type} : Lit × DataW H → Nat
  | (.string bytes, d) => bytes.length + uptoBulk d + 1
  | (_, d) => uptoBulk d + 1
 end
def uptoSmall : (H : Type) → List (DataW H) → Bool := fun _ ds => decide (uptoBulkAll ds ≤ 1048576)
def OpenSpec.upto (s : _root_.Go.ChangeSpec) : _root_.Go.OpenSpec := { _root_.Go.OpenSpec.ofChange s with cond := some uptoSmall }

/-- 'laws.FnLogs', WHERE WHAT IT READS IS OF BULK AT MOST 1048576: true; the input reads as it did. -/
def fnLogsUptoRow : OpenClaim := { program := "ytofhkncdjjlllaa", sum := "1f444bd5cec5f1e0a7e9f15aac37588442fab1fc3c329d1f533685bd42e8282e", func := "loop.example/g00270/laws.FnLogs", spec := "fnLogs", unfollowed := true, recurses := true, apart := false, narrowed := true }
def FnLogsUptoSaid : Prop := fnLogsUptoRow.holds Try.pinned (OpenSpec.upto fnLogsSpec)

/-- 'laws.FnLeaves', WHERE WHAT IT READS IS OF BULK AT MOST 1048576: true; the input reads as it did. -/
def fnLeavesUptoRow : OpenClaim := { program := "ytofhkncdjjlllaa", sum := "1f444bd5cec5f1e0a7e9f15aac37588442fab1fc3c329d1f533685bd42e8282e", func := "loop.example/g00270/laws.FnLeaves", spec := "fnLeaves", inPlace := ["slices.overlaps[loop.example/g00270/impl.Row]", "slices.overlaps[loop.example/g00270/impl.Leaf]"], apart := false, narrowed := true }
def FnLeavesUptoSaid : Prop := fnLeavesUptoRow.holds Try.pinned (OpenSpec.upto fnLeavesSpec)

/-- 'laws.FnMerges', WHERE WHAT IT READS IS OF BULK AT MOST 1048576: true; the input reads as it did. -/
def fnMergesUptoRow : OpenClaim := { program := "ytofhkncdjjlllaa", sum := "1f444bd5cec5f1e0a7e9f15aac37588442fab1fc3c329d1f533685bd42e8282e", func := "loop.example/g00270/laws.FnMerges", spec := "fnMerges", inPlace := ["slices.overlaps[loop.example/g00270/impl.Leaf]"], apart := false, narrowed := true }
def FnMergesUptoSaid : Prop := fnMergesUptoRow.holds Try.pinned (OpenSpec.upto fnMergesSpec)

/-- 'laws.FnExactMergeLeaves', WHERE WHAT IT READS IS OF BULK AT MOST 1048576: true; the input reads as it did. -/
def fnExactMergeLeavesUptoRow : OpenClaim := { program := "ytofhkncdjjlllaa", sum := "1f444bd5cec5f1e0a7e9f15aac37588442fab1fc3c329d1f533685bd42e8282e", func := "loop.example/g00270/laws.FnExactMergeLeaves", spec := "fnExactMergeLeaves", inPlace := ["slices.overlaps[loop.example/g00270/impl.Leaf]"], apart := false, narrowed := true }
def FnExactMergeLeavesUptoSaid : Prop := fnExactMergeLeavesUptoRow.holds Try.pinned (OpenSpec.upto fnExactMergeLeavesSpec)

/-- 'laws.FnExactEvenLeaves', WHERE WHAT IT READS IS OF BULK AT MOST 1048576: true; the input reads as it did. -/
def fnExactEvenLeavesUptoRow : OpenClaim := { program := "ytofhkncdjjlllaa", sum := "1f444bd5cec5f1e0a7e9f15aac37588442fab1fc3c329d1f533685bd42e8282e", func := "loop.example/g00270/laws.FnExactEvenLeaves", spec := "fnExactEvenLeaves", inPlace := ["slices.overlaps[loop.example/g00270/impl.Leaf]"], apart := false, narrowed := true }
def FnExactEvenLeavesUptoSaid : Prop := fnExactEvenLeavesUptoRow.holds Try.pinned (OpenSpec.upto fnExactEvenLeavesSpec)

/-- 'laws.FnExactPackLeaves', WHERE WHAT IT READS IS OF BULK AT MOST 1048576: true; the input reads as it did. -/
def fnExactPackLeavesUptoRow : OpenClaim := { program := "ytofhkncdjjlllaa", sum := "1f444bd5cec5f1e0a7e9f15aac37588442fab1fc3c329d1f533685bd42e8282e", func := "loop.example/g00270/laws.FnExactPackLeaves", spec := "fnExactPackLeaves", apart := false, narrowed := true }
def FnExactPackLeavesUptoSaid : Prop := fnExactPackLeavesUptoRow.holds Try.pinned (OpenSpec.upto fnExactPackLeavesSpec)

/-- 'laws.FnExactFillOf', WHERE WHAT IT READS IS OF BULK AT MOST 1048576: true; the input reads as it did. -/
def fnExactFillOfUptoRow : OpenClaim := { program := "ytofhkncdjjlllaa", sum := "1f444bd5cec5f1e0a7e9f15aac37588442fab1fc3c329d1f533685bd42e8282e", func := "loop.example/g00270/laws.FnExactFillOf", spec := "fnExactFillOf", apart := false, narrowed := true }
def FnExactFillOfUptoSaid : Prop := fnExactFillOfUptoRow.holds Try.pinned (OpenSpec.upto fnExactFillOfSpec)

/-- 'laws.FnExactSameRows', WHERE WHAT IT READS IS OF BULK AT MOST 1048576: true; the input reads as it did. -/
def fnExactSameRowsUptoRow : OpenClaim := { program := "ytofhkncdjjlllaa", sum := "1f444bd5cec5f1e0a7e9f15aac37588442fab1fc3c329d1f533685bd42e8282e", func := "loop.example/g00270/laws.FnExactSameRows", spec := "fnExactSameRows", apart := false, narrowed := true }
def FnExactSameRowsUptoSaid : Prop := fnExactSameRowsUptoRow.holds Try.pinned (OpenSpec.upto fnExactSameRowsSpec)

end Rows
end Go.Proofs.Ytofhkncdjjlllaa
