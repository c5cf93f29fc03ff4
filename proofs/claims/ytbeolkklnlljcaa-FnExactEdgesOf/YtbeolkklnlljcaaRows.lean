/-
  No cell of these rows narrows 'for every input' (looked for: loops, veiled, ifaces, maps, wideKeys, modest, calm, conditions, laid).
  DERIVED. THE GIVEN ROWS OF THIS SEAT. 10 by the template 'for every input the law returns true; each argument reads behind the call as it read before'; 0 by the template 'total and deterministic' (their statements: YtbeolkklnlljcaaTotals.lean).
  GIVEN WITH THE SEED: the statements are not yours to turn. If you find one false, say at which input.
  Laid BY PROGRAM, IN A SANDBOX (cutbox-rows.mjs): the forced cells as the released guide's own fill.sh prints them over the translation ca562c4ace611d78… (all of the seat's roots in one cut). By AI agents, Wed Nov 11 2026. No macro, syntax, notation, axiom, sorry.
-/
import Derived.Test.YtbeolkklnlljcaaChecked
import GoSem.Claim
import GoSem.ClaimJoined
import GoSem.ClaimMapViews
import Derived.JoinedTies
import Derived.KernelRfl
namespace Go.Proofs.Ytbeolkklnlljcaa
/- THE CELL 'sum', in the pinned program and in every row, IS THE sha256 OF THE DUMP (.gsa) THAT YtbeolkklnlljcaaProg.lean LOADS. Nothing in Lean hashes anything: it is a label: what it is worth is what the hold of that sum in a sandbox is worth. -/
noncomputable def Try.pinned : Pinned := { name := "ytbeolkklnlljcaa", sum := "ca562c4ace611d785181a6316207a17985a46b4095650b268b7275f38f038c15", checked := Try.checked }
namespace Rows
def none {H : Type} : Left H := { results := [], args := [] }

/-- 'laws.FnAsks': WHATEVER THE INPUT: true; the input reads as it did. -/
def fnAsksSpec : ChangeSpec := { name := "fnAsks", fn := fun _ => fun
  | [d] => { results := [.lit (.bool true)], args := [d] }
  | _ => none }
def fnAsksRow : OpenClaim := { program := "ytbeolkklnlljcaa", sum := "ca562c4ace611d785181a6316207a17985a46b4095650b268b7275f38f038c15", func := "loop.example/g00270/laws.FnAsks", spec := "fnAsks", inPlace := ["slices.overlaps[loop.example/g00270/impl.openLock]", "slices.overlaps[loop.example/g00270/impl.Hold]"], recurses := true, plainKeys := false, apart := false }
def FnAsksSaid : Prop := fnAsksRow.holds Try.pinned (OpenSpec.ofChange fnAsksSpec)

/-- ITS FALSE NEIGHBOUR: 'it returns false'. Refute it at one input. -/
def fnAsksWrong : ChangeSpec := { name := "fnAsks", fn := fun _ => fun
  | [d] => { results := [.lit (.bool false)], args := [d] }
  | _ => none }
def FnAsksWrongFalsely : Prop := fnAsksRow.holds Try.pinned (OpenSpec.ofChange fnAsksWrong)

/-- 'laws.FnFrees': WHATEVER THE INPUT: true; the input reads as it did. -/
def fnFreesSpec : ChangeSpec := { name := "fnFrees", fn := fun _ => fun
  | [d] => { results := [.lit (.bool true)], args := [d] }
  | _ => none }
def fnFreesRow : OpenClaim := { program := "ytbeolkklnlljcaa", sum := "ca562c4ace611d785181a6316207a17985a46b4095650b268b7275f38f038c15", func := "loop.example/g00270/laws.FnFrees", spec := "fnFrees", recurses := true, plainKeys := false, apart := false }
def FnFreesSaid : Prop := fnFreesRow.holds Try.pinned (OpenSpec.ofChange fnFreesSpec)

/-- ITS FALSE NEIGHBOUR: 'it returns false'. Refute it at one input. -/
def fnFreesWrong : ChangeSpec := { name := "fnFrees", fn := fun _ => fun
  | [d] => { results := [.lit (.bool false)], args := [d] }
  | _ => none }
def FnFreesWrongFalsely : Prop := fnFreesRow.holds Try.pinned (OpenSpec.ofChange fnFreesWrong)

/-- 'laws.FnEdges': WHATEVER THE INPUT: true; the input reads as it did. -/
def fnEdgesSpec : ChangeSpec := { name := "fnEdges", fn := fun _ => fun
  | [d] => { results := [.lit (.bool true)], args := [d] }
  | _ => none }
def fnEdgesRow : OpenClaim := { program := "ytbeolkklnlljcaa", sum := "ca562c4ace611d785181a6316207a17985a46b4095650b268b7275f38f038c15", func := "loop.example/g00270/laws.FnEdges", spec := "fnEdges", unfollowed := true, recurses := true, plainKeys := false, apart := false }
def FnEdgesSaid : Prop := fnEdgesRow.holds Try.pinned (OpenSpec.ofChange fnEdgesSpec)

/-- ITS FALSE NEIGHBOUR: 'it returns false'. Refute it at one input. -/
def fnEdgesWrong : ChangeSpec := { name := "fnEdges", fn := fun _ => fun
  | [d] => { results := [.lit (.bool false)], args := [d] }
  | _ => none }
def FnEdgesWrongFalsely : Prop := fnEdgesRow.holds Try.pinned (OpenSpec.ofChange fnEdgesWrong)

/-- 'laws.FnCycles': WHATEVER THE INPUT: true; the input reads as it did. -/
def fnCyclesSpec : ChangeSpec := { name := "fnCycles", fn := fun _ => fun
  | [d] => { results := [.lit (.bool true)], args := [d] }
  | _ => none }
def fnCyclesRow : OpenClaim := { program := "ytbeolkklnlljcaa", sum := "ca562c4ace611d785181a6316207a17985a46b4095650b268b7275f38f038c15", func := "loop.example/g00270/laws.FnCycles", spec := "fnCycles", unfollowed := true, recurses := true, plainKeys := false, apart := false }
def FnCyclesSaid : Prop := fnCyclesRow.holds Try.pinned (OpenSpec.ofChange fnCyclesSpec)

/-- ITS FALSE NEIGHBOUR: 'it returns false'. Refute it at one input. -/
def fnCyclesWrong : ChangeSpec := { name := "fnCycles", fn := fun _ => fun
  | [d] => { results := [.lit (.bool false)], args := [d] }
  | _ => none }
def FnCyclesWrongFalsely : Prop := fnCyclesRow.holds Try.pinned (OpenSpec.ofChange fnCyclesWrong)

/-- 'laws.FnVictims': WHATEVER THE INPUT: true; the input reads as it did. -/
def fnVictimsSpec : ChangeSpec := { name := "fnVictims", fn := fun _ => fun
  | [d] => { results := [.lit (.bool true)], args := [d] }
  | _ => none }
def fnVictimsRow : OpenClaim := { program := "ytbeolkklnlljcaa", sum := "ca562c4ace611d785181a6316207a17985a46b4095650b268b7275f38f038c15", func := "loop.example/g00270/laws.FnVictims", spec := "fnVictims", plainKeys := false, apart := false }
def FnVictimsSaid : Prop := fnVictimsRow.holds Try.pinned (OpenSpec.ofChange fnVictimsSpec)

/-- ITS FALSE NEIGHBOUR: 'it returns false'. Refute it at one input. -/
def fnVictimsWrong : ChangeSpec := { name := "fnVictims", fn := fun _ => fun
  | [d] => { results := [.lit (.bool false)], args := [d] }
  | _ => none }
def FnVictimsWrongFalsely : Prop := fnVictimsRow.holds Try.pinned (OpenSpec.ofChange fnVictimsWrong)

/-- 'laws.FnExactEdgesOf': WHATEVER THE INPUT: true; the input reads as it did. -/
def fnExactEdgesOfSpec : ChangeSpec := { name := "fnExactEdgesOf", fn := fun _ => fun
  | [d] => { results := [.lit (.bool true)], args := [d] }
  | _ => none }
def fnExactEdgesOfRow : OpenClaim := { program := "ytbeolkklnlljcaa", sum := "ca562c4ace611d785181a6316207a17985a46b4095650b268b7275f38f038c15", func := "loop.example/g00270/laws.FnExactEdgesOf", spec := "fnExactEdgesOf", unfollowed := true, recurses := true, plainKeys := false, apart := false }
def FnExactEdgesOfSaid : Prop := fnExactEdgesOfRow.holds Try.pinned (OpenSpec.ofChange fnExactEdgesOfSpec)

/-- ITS FALSE NEIGHBOUR: 'it returns false'. Refute it at one input. -/
def fnExactEdgesOfWrong : ChangeSpec := { name := "fnExactEdgesOf", fn := fun _ => fun
  | [d] => { results := [.lit (.bool false)], args := [d] }
  | _ => none }
def FnExactEdgesOfWrongFalsely : Prop := fnExactEdgesOfRow.holds Try.pinned (OpenSpec.ofChange fnExactEdgesOfWrong)

/-- 'laws.FnExactCycleFrom': WHATEVER THE INPUT: true; the input reads as it did. -/
def fnExactCycleFromSpec : ChangeSpec := { name := "fnExactCycleFrom", fn := fun _ => fun
  | [d1, d2] => { results := [.lit (.bool true)], args := [d1, d2] }
  | _ => none }
def fnExactCycleFromRow : OpenClaim := { program := "ytbeolkklnlljcaa", sum := "ca562c4ace611d785181a6316207a17985a46b4095650b268b7275f38f038c15", func := "loop.example/g00270/laws.FnExactCycleFrom", spec := "fnExactCycleFrom", unfollowed := true, recurses := true, plainKeys := false, apart := false }
def FnExactCycleFromSaid : Prop := fnExactCycleFromRow.holds Try.pinned (OpenSpec.ofChange fnExactCycleFromSpec)

/-- ITS FALSE NEIGHBOUR: 'it returns false'. Refute it at one input. -/
def fnExactCycleFromWrong : ChangeSpec := { name := "fnExactCycleFrom", fn := fun _ => fun
  | [d1, d2] => { results := [.lit (.bool false)], args := [d1, d2] }
  | _ => none }
def FnExactCycleFromWrongFalsely : Prop := fnExactCycleFromRow.holds Try.pinned (OpenSpec.ofChange fnExactCycleFromWrong)

/-- 'laws.FnExactHasCycle': WHATEVER THE INPUT: true; the input reads as it did. -/
def fnExactHasCycleSpec : ChangeSpec := { name := "fnExactHasCycle", fn := fun _ => fun
  | [d] => { results := [.lit (.bool true)], args := [d] }
  | _ => none }
def fnExactHasCycleRow : OpenClaim := { program := "ytbeolkklnlljcaa", sum := "ca562c4ace611d785181a6316207a17985a46b4095650b268b7275f38f038c15", func := "loop.example/g00270/laws.FnExactHasCycle", spec := "fnExactHasCycle", unfollowed := true, recurses := true, plainKeys := false, apart := false }
def FnExactHasCycleSaid : Prop := fnExactHasCycleRow.holds Try.pinned (OpenSpec.ofChange fnExactHasCycleSpec)

/-- ITS FALSE NEIGHBOUR: 'it returns false'. Refute it at one input. -/
def fnExactHasCycleWrong : ChangeSpec := { name := "fnExactHasCycle", fn := fun _ => fun
  | [d] => { results := [.lit (.bool false)], args := [d] }
  | _ => none }
def FnExactHasCycleWrongFalsely : Prop := fnExactHasCycleRow.holds Try.pinned (OpenSpec.ofChange fnExactHasCycleWrong)

/-- 'laws.FnExactVictimOf': WHATEVER THE INPUT: true; the input reads as it did. -/
def fnExactVictimOfSpec : ChangeSpec := { name := "fnExactVictimOf", fn := fun _ => fun
  | [d1, d2] => { results := [.lit (.bool true)], args := [d1, d2] }
  | _ => none }
def fnExactVictimOfRow : OpenClaim := { program := "ytbeolkklnlljcaa", sum := "ca562c4ace611d785181a6316207a17985a46b4095650b268b7275f38f038c15", func := "loop.example/g00270/laws.FnExactVictimOf", spec := "fnExactVictimOf", plainKeys := false, apart := false }
def FnExactVictimOfSaid : Prop := fnExactVictimOfRow.holds Try.pinned (OpenSpec.ofChange fnExactVictimOfSpec)

/-- ITS FALSE NEIGHBOUR: 'it returns false'. Refute it at one input. -/
def fnExactVictimOfWrong : ChangeSpec := { name := "fnExactVictimOf", fn := fun _ => fun
  | [d1, d2] => { results := [.lit (.bool false)], args := [d1, d2] }
  | _ => none }
def FnExactVictimOfWrongFalsely : Prop := fnExactVictimOfRow.holds Try.pinned (OpenSpec.ofChange fnExactVictimOfWrong)

/-- 'laws.FnExactWithoutTxn': WHATEVER THE INPUT: true; the input reads as it did. -/
def fnExactWithoutTxnSpec : ChangeSpec := { name := "fnExactWithoutTxn", fn := fun _ => fun
  | [d1, d2] => { results := [.lit (.bool true)], args := [d1, d2] }
  | _ => none }
def fnExactWithoutTxnRow : OpenClaim := { program := "ytbeolkklnlljcaa", sum := "ca562c4ace611d785181a6316207a17985a46b4095650b268b7275f38f038c15", func := "loop.example/g00270/laws.FnExactWithoutTxn", spec := "fnExactWithoutTxn", plainKeys := false, apart := false }
def FnExactWithoutTxnSaid : Prop := fnExactWithoutTxnRow.holds Try.pinned (OpenSpec.ofChange fnExactWithoutTxnSpec)

/-- ITS FALSE NEIGHBOUR: 'it returns false'. Refute it at one input. -/
def fnExactWithoutTxnWrong : ChangeSpec := { name := "fnExactWithoutTxn", fn := fun _ => fun
  | [d1, d2] => { results := [.lit (.bool false)], args := [d1, d2] }
  | _ => none }
def FnExactWithoutTxnWrongFalsely : Prop := fnExactWithoutTxnRow.holds Try.pinned (OpenSpec.ofChange fnExactWithoutTxnWrong)

/- THE SECOND FORM. 'bulk': how many values and letters a reading holds, each counted each time it is reached (what is shared counts as often as it is met; a slice's spare places count too). A statement '..UptoSaid' is the law's where the arguments, and the package variables that the reading takes, are together of bulk at most 1048576: NARROWER than '..Said'. Prove '..Said' where nothing that the law and all that it calls make is longer than what came in: it says more and counts as full. Else prove '..UptoSaid'. A law counts once. -/
mutual
def uptoBulk {H : Type} : DataW H → Nat
  | .lit (.string bytes) => bytes.length + 1
  | .lit _ => 1
  | .nil => 1
  | .ptr d => uptoBulk d + 1
  | .slice elems spare => uptoBulkAll elems + uptoBulkAll spare + 1
  | .agg parts => uptoBulkAll parts + 1
  | .iface _ d => uptoBulk d + 1
  | .map entries => uptoBulkEntries entries + 1
  | .held _ => 1
def uptoBulkAll {H : Type} : List (DataW H) → Nat
  | [] => 0
  | d :: r => uptoBulk d + uptoBulkAll r
def uptoBulkEntries {H : Type} : List (Lit × DataW H) → Nat
  | [] => 0
  | x :: r => uptoBulkEntry x + uptoBulkEntries r
def uptoBulkEntry {H : Type} : Lit × DataW H → Nat
  | (.string bytes, d) => bytes.length + uptoBulk d + 1
  | (_, d) => uptoBulk d + 1
 end
def uptoSmall : (H : Type) → List (DataW H) → Bool := fun _ ds => decide (uptoBulkAll ds ≤ 1048576)
def OpenSpec.upto (s : _root_.Go.ChangeSpec) : _root_.Go.OpenSpec := { _root_.Go.OpenSpec.ofChange s with cond := some uptoSmall }

/-- 'laws.FnAsks', WHERE WHAT IT READS IS OF BULK AT MOST 1048576: true; the input reads as it did. -/
def fnAsksUptoRow : OpenClaim := { program := "ytbeolkklnlljcaa", sum := "ca562c4ace611d785181a6316207a17985a46b4095650b268b7275f38f038c15", func := "loop.example/g00270/laws.FnAsks", spec := "fnAsks", inPlace := ["slices.overlaps[loop.example/g00270/impl.openLock]", "slices.overlaps[loop.example/g00270/impl.Hold]"], recurses := true, plainKeys := false, apart := false, narrowed := true }
def FnAsksUptoSaid : Prop := fnAsksUptoRow.holds Try.pinned (OpenSpec.upto fnAsksSpec)

/-- 'laws.FnFrees', WHERE WHAT IT READS IS OF BULK AT MOST 1048576: true; the input reads as it did. -/
def fnFreesUptoRow : OpenClaim := { program := "ytbeolkklnlljcaa", sum := "ca562c4ace611d785181a6316207a17985a46b4095650b268b7275f38f038c15", func := "loop.example/g00270/laws.FnFrees", spec := "fnFrees", recurses := true, plainKeys := false, apart := false, narrowed := true }
def FnFreesUptoSaid : Prop := fnFreesUptoRow.holds Try.pinned (OpenSpec.upto fnFreesSpec)

/-- 'laws.FnEdges', WHERE WHAT IT READS IS OF BULK AT MOST 1048576: true; the input reads as it did. -/
def fnEdgesUptoRow : OpenClaim := { program := "ytbeolkklnlljcaa", sum := "ca562c4ace611d785181a6316207a17985a46b4095650b268b7275f38f038c15", func := "loop.example/g00270/laws.FnEdges", spec := "fnEdges", unfollowed := true, recurses := true, plainKeys := false, apart := false, narrowed := true }
def FnEdgesUptoSaid : Prop := fnEdgesUptoRow.holds Try.pinned (OpenSpec.upto fnEdgesSpec)

/-- 'laws.FnCycles', WHERE WHAT IT READS IS OF BULK AT MOST 1048576: true; the input reads as it did. -/
def fnCyclesUptoRow : OpenClaim := { program := "ytbeolkklnlljcaa", sum := "ca562c4ace611d785181a6316207a17985a46b4095650b268b7275f38f038c15", func := "loop.example/g00270/laws.FnCycles", spec := "fnCycles", unfollowed := true, recurses := true, plainKeys := false, apart := false, narrowed := true }
def FnCyclesUptoSaid : Prop := fnCyclesUptoRow.holds Try.pinned (OpenSpec.upto fnCyclesSpec)

/-- 'laws.FnVictims', WHERE WHAT IT READS IS OF BULK AT MOST 1048576: true; the input reads as it did. -/
def fnVictimsUptoRow : OpenClaim := { program := "ytbeolkklnlljcaa", sum := "ca562c4ace611d785181a6316207a17985a46b4095650b268b7275f38f038c15", func := "loop.example/g00270/laws.FnVictims", spec := "fnVictims", plainKeys := false, apart := false, narrowed := true }
def FnVictimsUptoSaid : Prop := fnVictimsUptoRow.holds Try.pinned (OpenSpec.upto fnVictimsSpec)

/-- 'laws.FnExactEdgesOf', WHERE WHAT IT READS IS OF BULK AT MOST 1048576: true; the input reads as it did. -/
def fnExactEdgesOfUptoRow : OpenClaim := { program := "ytbeolkklnlljcaa", sum := "ca562c4ace611d785181a6316207a17985a46b4095650b268b7275f38f038c15", func := "loop.example/g00270/laws.FnExactEdgesOf", spec := "fnExactEdgesOf", unfollowed := true, recurses := true, plainKeys := false, apart := false, narrowed := true }
def FnExactEdgesOfUptoSaid : Prop := fnExactEdgesOfUptoRow.holds Try.pinned (OpenSpec.upto fnExactEdgesOfSpec)

/-- 'laws.FnExactCycleFrom', WHERE WHAT IT READS IS OF BULK AT MOST 1048576: true; the input reads as it did. -/
def fnExactCycleFromUptoRow : OpenClaim := { program := "ytbeolkklnlljcaa", sum := "ca562c4ace611d785181a6316207a17985a46b4095650b268b7275f38f038c15", func := "loop.example/g00270/laws.FnExactCycleFrom", spec := "fnExactCycleFrom", unfollowed := true, recurses := true, plainKeys := false, apart := false, narrowed := true }
def FnExactCycleFromUptoSaid : Prop := fnExactCycleFromUptoRow.holds Try.pinned (OpenSpec.upto fnExactCycleFromSpec)

/-- 'laws.FnExactHasCycle', WHERE WHAT IT READS IS OF BULK AT MOST 1048576: true; the input reads as it did. -/
def fnExactHasCycleUptoRow : OpenClaim := { program := "ytbeolkklnlljcaa", sum := "ca562c4ace611d785181a6316207a17985a46b4095650b268b7275f38f038c15", func := "loop.example/g00270/laws.FnExactHasCycle", spec := "fnExactHasCycle", unfollowed := true, recurses := true, plainKeys := false, apart := false, narrowed := true }
def FnExactHasCycleUptoSaid : Prop := fnExactHasCycleUptoRow.holds Try.pinned (OpenSpec.upto fnExactHasCycleSpec)

/-- 'laws.FnExactVictimOf', WHERE WHAT IT READS IS OF BULK AT MOST 1048576: true; the input reads as it did. -/
def fnExactVictimOfUptoRow : OpenClaim := { program := "ytbeolkklnlljcaa", sum := "ca562c4ace611d785181a6316207a17985a46b4095650b268b7275f38f038c15", func := "loop.example/g00270/laws.FnExactVictimOf", spec := "fnExactVictimOf", plainKeys := false, apart := false, narrowed := true }
def FnExactVictimOfUptoSaid : Prop := fnExactVictimOfUptoRow.holds Try.pinned (OpenSpec.upto fnExactVictimOfSpec)

/-- 'laws.FnExactWithoutTxn', WHERE WHAT IT READS IS OF BULK AT MOST 1048576: true; the input reads as it did. -/
def fnExactWithoutTxnUptoRow : OpenClaim := { program := "ytbeolkklnlljcaa", sum := "ca562c4ace611d785181a6316207a17985a46b4095650b268b7275f38f038c15", func := "loop.example/g00270/laws.FnExactWithoutTxn", spec := "fnExactWithoutTxn", plainKeys := false, apart := false, narrowed := true }
def FnExactWithoutTxnUptoSaid : Prop := fnExactWithoutTxnUptoRow.holds Try.pinned (OpenSpec.upto fnExactWithoutTxnSpec)

end Rows
end Go.Proofs.Ytbeolkklnlljcaa
