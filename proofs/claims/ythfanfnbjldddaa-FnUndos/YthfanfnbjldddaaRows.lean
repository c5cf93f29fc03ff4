/-
  No cell of these rows narrows 'for every input' (looked for: loops, veiled, ifaces, maps, wideKeys, modest, calm, conditions, laid).
  DERIVED. THE GIVEN ROWS OF THIS SEAT. 8 by the template 'for every input the law returns true; each argument reads behind the call as it read before'; 0 by the template 'total and deterministic' (their statements: YthfanfnbjldddaaTotals.lean).
  GIVEN WITH THE SEED: the statements are not yours to turn. If you find one false, say at which input.
  Laid BY PROGRAM, IN A SANDBOX (cutbox-rows.mjs): the forced cells as the released guide's own fill.sh prints them over the translation f91a4558f15d158b… (all of the seat's roots in one cut). By AI agents, Wed Nov 11 2026. No macro, syntax, notation, axiom, sorry.
-/
import Derived.Test.YthfanfnbjldddaaChecked
import GoSem.Claim
import GoSem.ClaimJoined
import GoSem.ClaimMapViews
import Derived.JoinedTies
import Derived.KernelRfl
namespace Go.Proofs.Ythfanfnbjldddaa
/- THE CELL 'sum', in the pinned program and in every row, IS THE sha256 OF THE DUMP (.gsa) THAT YthfanfnbjldddaaProg.lean LOADS. Nothing in Lean hashes anything: it is a label: what it is worth is what the hold of that sum in a sandbox is worth. -/
noncomputable def Try.pinned : Pinned := { name := "ythfanfnbjldddaa", sum := "f91a4558f15d158b2abb7098fffe7e9ae1a1f0c748874158e0ca5794972efc10", checked := Try.checked }
namespace Rows
def none {H : Type} : Left H := { results := [], args := [] }

/-- 'laws.FnSets': WHATEVER THE INPUT: true; the input reads as it did. -/
def fnSetsSpec : ChangeSpec := { name := "fnSets", fn := fun _ => fun
  | [d] => { results := [.lit (.bool true)], args := [d] }
  | _ => none }
def fnSetsRow : OpenClaim := { program := "ythfanfnbjldddaa", sum := "f91a4558f15d158b2abb7098fffe7e9ae1a1f0c748874158e0ca5794972efc10", func := "loop.example/g00270/laws.FnSets", spec := "fnSets", inPlace := ["slices.overlaps[loop.example/g00270/impl.Row]", "slices.overlaps[loop.example/g00270/impl.Leaf]"], unfollowed := true, recurses := true, apart := false }
def FnSetsSaid : Prop := fnSetsRow.holds Try.pinned (OpenSpec.ofChange fnSetsSpec)

/-- ITS FALSE NEIGHBOUR: 'it returns false'. Refute it at one input. -/
def fnSetsWrong : ChangeSpec := { name := "fnSets", fn := fun _ => fun
  | [d] => { results := [.lit (.bool false)], args := [d] }
  | _ => none }
def FnSetsWrongFalsely : Prop := fnSetsRow.holds Try.pinned (OpenSpec.ofChange fnSetsWrong)

/-- 'laws.FnUndos': WHATEVER THE INPUT: true; the input reads as it did. -/
def fnUndosSpec : ChangeSpec := { name := "fnUndos", fn := fun _ => fun
  | [d] => { results := [.lit (.bool true)], args := [d] }
  | _ => none }
def fnUndosRow : OpenClaim := { program := "ythfanfnbjldddaa", sum := "f91a4558f15d158b2abb7098fffe7e9ae1a1f0c748874158e0ca5794972efc10", func := "loop.example/g00270/laws.FnUndos", spec := "fnUndos", inPlace := ["slices.overlaps[loop.example/g00270/impl.Row]", "slices.overlaps[loop.example/g00270/impl.Leaf]"], unfollowed := true, recurses := true, apart := false }
def FnUndosSaid : Prop := fnUndosRow.holds Try.pinned (OpenSpec.ofChange fnUndosSpec)

/-- ITS FALSE NEIGHBOUR: 'it returns false'. Refute it at one input. -/
def fnUndosWrong : ChangeSpec := { name := "fnUndos", fn := fun _ => fun
  | [d] => { results := [.lit (.bool false)], args := [d] }
  | _ => none }
def FnUndosWrongFalsely : Prop := fnUndosRow.holds Try.pinned (OpenSpec.ofChange fnUndosWrong)

/-- 'laws.FnLooks': WHATEVER THE INPUT: true; the input reads as it did. -/
def fnLooksSpec : ChangeSpec := { name := "fnLooks", fn := fun _ => fun
  | [d] => { results := [.lit (.bool true)], args := [d] }
  | _ => none }
def fnLooksRow : OpenClaim := { program := "ythfanfnbjldddaa", sum := "f91a4558f15d158b2abb7098fffe7e9ae1a1f0c748874158e0ca5794972efc10", func := "loop.example/g00270/laws.FnLooks", spec := "fnLooks", apart := false }
def FnLooksSaid : Prop := fnLooksRow.holds Try.pinned (OpenSpec.ofChange fnLooksSpec)

/-- ITS FALSE NEIGHBOUR: 'it returns false'. Refute it at one input. -/
def fnLooksWrong : ChangeSpec := { name := "fnLooks", fn := fun _ => fun
  | [d] => { results := [.lit (.bool false)], args := [d] }
  | _ => none }
def FnLooksWrongFalsely : Prop := fnLooksRow.holds Try.pinned (OpenSpec.ofChange fnLooksWrong)

/-- 'laws.FnExactIndexFault': WHATEVER THE INPUT: true; the input reads as it did. -/
def fnExactIndexFaultSpec : ChangeSpec := { name := "fnExactIndexFault", fn := fun _ => fun
  | [d] => { results := [.lit (.bool true)], args := [d] }
  | _ => none }
def fnExactIndexFaultRow : OpenClaim := { program := "ythfanfnbjldddaa", sum := "f91a4558f15d158b2abb7098fffe7e9ae1a1f0c748874158e0ca5794972efc10", func := "loop.example/g00270/laws.FnExactIndexFault", spec := "fnExactIndexFault", apart := false }
def FnExactIndexFaultSaid : Prop := fnExactIndexFaultRow.holds Try.pinned (OpenSpec.ofChange fnExactIndexFaultSpec)

/-- ITS FALSE NEIGHBOUR: 'it returns false'. Refute it at one input. -/
def fnExactIndexFaultWrong : ChangeSpec := { name := "fnExactIndexFault", fn := fun _ => fun
  | [d] => { results := [.lit (.bool false)], args := [d] }
  | _ => none }
def FnExactIndexFaultWrongFalsely : Prop := fnExactIndexFaultRow.holds Try.pinned (OpenSpec.ofChange fnExactIndexFaultWrong)

/-- 'laws.FnExactIndexOf': WHATEVER THE INPUT: true; the input reads as it did. -/
def fnExactIndexOfSpec : ChangeSpec := { name := "fnExactIndexOf", fn := fun _ => fun
  | [d] => { results := [.lit (.bool true)], args := [d] }
  | _ => none }
def fnExactIndexOfRow : OpenClaim := { program := "ythfanfnbjldddaa", sum := "f91a4558f15d158b2abb7098fffe7e9ae1a1f0c748874158e0ca5794972efc10", func := "loop.example/g00270/laws.FnExactIndexOf", spec := "fnExactIndexOf", unfollowed := true, recurses := true, apart := false }
def FnExactIndexOfSaid : Prop := fnExactIndexOfRow.holds Try.pinned (OpenSpec.ofChange fnExactIndexOfSpec)

/-- ITS FALSE NEIGHBOUR: 'it returns false'. Refute it at one input. -/
def fnExactIndexOfWrong : ChangeSpec := { name := "fnExactIndexOf", fn := fun _ => fun
  | [d] => { results := [.lit (.bool false)], args := [d] }
  | _ => none }
def FnExactIndexOfWrongFalsely : Prop := fnExactIndexOfRow.holds Try.pinned (OpenSpec.ofChange fnExactIndexOfWrong)

/-- 'laws.FnExactTurnIndex': WHATEVER THE INPUT: true; the input reads as it did. -/
def fnExactTurnIndexSpec : ChangeSpec := { name := "fnExactTurnIndex", fn := fun _ => fun
  | [d1, d2, d3, d4] => { results := [.lit (.bool true)], args := [d1, d2, d3, d4] }
  | _ => none }
def fnExactTurnIndexRow : OpenClaim := { program := "ythfanfnbjldddaa", sum := "f91a4558f15d158b2abb7098fffe7e9ae1a1f0c748874158e0ca5794972efc10", func := "loop.example/g00270/laws.FnExactTurnIndex", spec := "fnExactTurnIndex", unfollowed := true, recurses := true, apart := false }
def FnExactTurnIndexSaid : Prop := fnExactTurnIndexRow.holds Try.pinned (OpenSpec.ofChange fnExactTurnIndexSpec)

/-- ITS FALSE NEIGHBOUR: 'it returns false'. Refute it at one input. -/
def fnExactTurnIndexWrong : ChangeSpec := { name := "fnExactTurnIndex", fn := fun _ => fun
  | [d1, d2, d3, d4] => { results := [.lit (.bool false)], args := [d1, d2, d3, d4] }
  | _ => none }
def FnExactTurnIndexWrongFalsely : Prop := fnExactTurnIndexRow.holds Try.pinned (OpenSpec.ofChange fnExactTurnIndexWrong)

/-- 'laws.FnExactLookIndex': WHATEVER THE INPUT: true; the input reads as it did. -/
def fnExactLookIndexSpec : ChangeSpec := { name := "fnExactLookIndex", fn := fun _ => fun
  | [d1, d2] => { results := [.lit (.bool true)], args := [d1, d2] }
  | _ => none }
def fnExactLookIndexRow : OpenClaim := { program := "ythfanfnbjldddaa", sum := "f91a4558f15d158b2abb7098fffe7e9ae1a1f0c748874158e0ca5794972efc10", func := "loop.example/g00270/laws.FnExactLookIndex", spec := "fnExactLookIndex", apart := false }
def FnExactLookIndexSaid : Prop := fnExactLookIndexRow.holds Try.pinned (OpenSpec.ofChange fnExactLookIndexSpec)

/-- ITS FALSE NEIGHBOUR: 'it returns false'. Refute it at one input. -/
def fnExactLookIndexWrong : ChangeSpec := { name := "fnExactLookIndex", fn := fun _ => fun
  | [d1, d2] => { results := [.lit (.bool false)], args := [d1, d2] }
  | _ => none }
def FnExactLookIndexWrongFalsely : Prop := fnExactLookIndexRow.holds Try.pinned (OpenSpec.ofChange fnExactLookIndexWrong)

/-- 'laws.FnExactSameIndex': WHATEVER THE INPUT: true; the input reads as it did. -/
def fnExactSameIndexSpec : ChangeSpec := { name := "fnExactSameIndex", fn := fun _ => fun
  | [d1, d2] => { results := [.lit (.bool true)], args := [d1, d2] }
  | _ => none }
def fnExactSameIndexRow : OpenClaim := { program := "ythfanfnbjldddaa", sum := "f91a4558f15d158b2abb7098fffe7e9ae1a1f0c748874158e0ca5794972efc10", func := "loop.example/g00270/laws.FnExactSameIndex", spec := "fnExactSameIndex", apart := false }
def FnExactSameIndexSaid : Prop := fnExactSameIndexRow.holds Try.pinned (OpenSpec.ofChange fnExactSameIndexSpec)

/-- ITS FALSE NEIGHBOUR: 'it returns false'. Refute it at one input. -/
def fnExactSameIndexWrong : ChangeSpec := { name := "fnExactSameIndex", fn := fun _ => fun
  | [d1, d2] => { results := [.lit (.bool false)], args := [d1, d2] }
  | _ => none }
def FnExactSameIndexWrongFalsely : Prop := fnExactSameIndexRow.holds Try.pinned (OpenSpec.ofChange fnExactSameIndexWrong)

/- THE SECOND FORM. 'bulk': how many values and letters a reading holds, each counted each time it is reached (what is shared counts as often as it is met; a slice's spare places count too). A statement '..UptoSaid' is the law's where the arguments, and the package variables that the reading takes, are together of bulk at most 1048576: NARROWER than '..Said'. Prove '..Said' where nothing that the law and all that it calls make is longer than what came in: it says more and counts as full. Else prove '..UptoSaid'. A law counts once. -/
mutual
def uptoBulk {H : Type} : DataW H → Nat
  | .lit (.string bytes) => bytes.length + 1
  | .lit _ => 1
  | .nil => 1
  | .ptr d => uptoBulk d + 1
  | .slice elems spare => uptoBulkAll elems + uptoBulkAll spare + 1
  | .agg parts => uptoBulkAll parts + 1
  | .iface _ d => uptoBulk d + 1
  | .map entries => uptoBulkEntries entries + 1
  | .held _ => 1
def uptoBulkAll {H : Type} : List (DataW H) → Nat
  | [] => 0
  | d :: r => uptoBulk d + uptoBulkAll r
def uptoBulkEntries {H : Type} : List (Lit × DataW H) → Nat
  | [] => 0
  | x :: r => uptoBulkEntry x + uptoBulkEntries r
def uptoBulkEntry {H : Type} : Lit × DataW H → Nat
  | (.string bytes, d) => bytes.length + uptoBulk d + 1
  | (_, d) => uptoBulk d + 1
 end
def uptoSmall : (H : Type) → List (DataW H) → Bool := fun _ ds => decide (uptoBulkAll ds ≤ 1048576)
def OpenSpec.upto (s : _root_.Go.ChangeSpec) : _root_.Go.OpenSpec := { _root_.Go.OpenSpec.ofChange s with cond := some uptoSmall }

/-- 'laws.FnSets', WHERE WHAT IT READS IS OF BULK AT MOST 1048576: true; the input reads as it did. -/
def fnSetsUptoRow : OpenClaim := { program := "ythfanfnbjldddaa", sum := "f91a4558f15d158b2abb7098fffe7e9ae1a1f0c748874158e0ca5794972efc10", func := "loop.example/g00270/laws.FnSets", spec := "fnSets", inPlace := ["slices.overlaps[loop.example/g00270/impl.Row]", "slices.overlaps[loop.example/g00270/impl.Leaf]"], unfollowed := true, recurses := true, apart := false, narrowed := true }
def FnSetsUptoSaid : Prop := fnSetsUptoRow.holds Try.pinned (OpenSpec.upto fnSetsSpec)

/-- 'laws.FnUndos', WHERE WHAT IT READS IS OF BULK AT MOST 1048576: true; the input reads as it did. -/
def fnUndosUptoRow : OpenClaim := { program := "ythfanfnbjldddaa", sum := "f91a4558f15d158b2abb7098fffe7e9ae1a1f0c748874158e0ca5794972efc10", func := "loop.example/g00270/laws.FnUndos", spec := "fnUndos", inPlace := ["slices.overlaps[loop.example/g00270/impl.Row]", "slices.overlaps[loop.example/g00270/impl.Leaf]"], unfollowed := true, recurses := true, apart := false, narrowed := true }
def FnUndosUptoSaid : Prop := fnUndosUptoRow.holds Try.pinned (OpenSpec.upto fnUndosSpec)

/-- 'laws.FnLooks', WHERE WHAT IT READS IS OF BULK AT MOST 1048576: true; the input reads as it did. -/
def fnLooksUptoRow : OpenClaim := { program := "ythfanfnbjldddaa", sum := "f91a4558f15d158b2abb7098fffe7e9ae1a1f0c748874158e0ca5794972efc10", func := "loop.example/g00270/laws.FnLooks", spec := "fnLooks", apart := false, narrowed := true }
def FnLooksUptoSaid : Prop := fnLooksUptoRow.holds Try.pinned (OpenSpec.upto fnLooksSpec)

/-- 'laws.FnExactIndexFault', WHERE WHAT IT READS IS OF BULK AT MOST 1048576: true; the input reads as it did. -/
def fnExactIndexFaultUptoRow : OpenClaim := { program := "ythfanfnbjldddaa", sum := "f91a4558f15d158b2abb7098fffe7e9ae1a1f0c748874158e0ca5794972efc10", func := "loop.example/g00270/laws.FnExactIndexFault", spec := "fnExactIndexFault", apart := false, narrowed := true }
def FnExactIndexFaultUptoSaid : Prop := fnExactIndexFaultUptoRow.holds Try.pinned (OpenSpec.upto fnExactIndexFaultSpec)

/-- 'laws.FnExactIndexOf', WHERE WHAT IT READS IS OF BULK AT MOST 1048576: true; the input reads as it did. -/
def fnExactIndexOfUptoRow : OpenClaim := { program := "ythfanfnbjldddaa", sum := "f91a4558f15d158b2abb7098fffe7e9ae1a1f0c748874158e0ca5794972efc10", func := "loop.example/g00270/laws.FnExactIndexOf", spec := "fnExactIndexOf", unfollowed := true, recurses := true, apart := false, narrowed := true }
def FnExactIndexOfUptoSaid : Prop := fnExactIndexOfUptoRow.holds Try.pinned (OpenSpec.upto fnExactIndexOfSpec)

/-- 'laws.FnExactTurnIndex', WHERE WHAT IT READS IS OF BULK AT MOST 1048576: true; the input reads as it did. -/
def fnExactTurnIndexUptoRow : OpenClaim := { program := "ythfanfnbjldddaa", sum := "f91a4558f15d158b2abb7098fffe7e9ae1a1f0c748874158e0ca5794972efc10", func := "loop.example/g00270/laws.FnExactTurnIndex", spec := "fnExactTurnIndex", unfollowed := true, recurses := true, apart := false, narrowed := true }
def FnExactTurnIndexUptoSaid : Prop := fnExactTurnIndexUptoRow.holds Try.pinned (OpenSpec.upto fnExactTurnIndexSpec)

/-- 'laws.FnExactLookIndex', WHERE WHAT IT READS IS OF BULK AT MOST 1048576: true; the input reads as it did. -/
def fnExactLookIndexUptoRow : OpenClaim := { program := "ythfanfnbjldddaa", sum := "f91a4558f15d158b2abb7098fffe7e9ae1a1f0c748874158e0ca5794972efc10", func := "loop.example/g00270/laws.FnExactLookIndex", spec := "fnExactLookIndex", apart := false, narrowed := true }
def FnExactLookIndexUptoSaid : Prop := fnExactLookIndexUptoRow.holds Try.pinned (OpenSpec.upto fnExactLookIndexSpec)

/-- 'laws.FnExactSameIndex', WHERE WHAT IT READS IS OF BULK AT MOST 1048576: true; the input reads as it did. -/
def fnExactSameIndexUptoRow : OpenClaim := { program := "ythfanfnbjldddaa", sum := "f91a4558f15d158b2abb7098fffe7e9ae1a1f0c748874158e0ca5794972efc10", func := "loop.example/g00270/laws.FnExactSameIndex", spec := "fnExactSameIndex", apart := false, narrowed := true }
def FnExactSameIndexUptoSaid : Prop := fnExactSameIndexUptoRow.holds Try.pinned (OpenSpec.upto fnExactSameIndexSpec)

end Rows
end Go.Proofs.Ythfanfnbjldddaa
