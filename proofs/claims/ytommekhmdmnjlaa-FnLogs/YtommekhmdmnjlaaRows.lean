/-
  No cell of these rows narrows 'for every input' (looked for: loops, veiled, ifaces, maps, wideKeys, modest, calm, conditions, laid).
  DERIVED. THE GIVEN ROWS OF THIS SEAT. 7 by the template 'for every input the law returns true; each argument reads behind the call as it read before'; 0 by the template 'total and deterministic' (their statements: YtommekhmdmnjlaaTotals.lean).
  GIVEN WITH THE SEED: the statements are not yours to turn. If you find one false, say at which input.
  Laid BY PROGRAM, IN A SANDBOX (cutbox-rows.mjs): the forced cells as the released guide's own fill.sh prints them over the translation e71cab36352c546d… (all of the seat's roots in one cut). By AI agents, Wed Nov 11 2026. No macro, syntax, notation, axiom, sorry.
-/
import Derived.Test.YtommekhmdmnjlaaChecked
import GoSem.Claim
import GoSem.ClaimJoined
import GoSem.ClaimMapViews
import Derived.JoinedTies
import Derived.KernelRfl
namespace Go.Proofs.Ytommekhmdmnjlaa
/- THE CELL 'sum', in the pinned program and in every row, IS THE sha256 OF THE DUMP (.gsa) THAT YtommekhmdmnjlaaProg.lean LOADS. Nothing in Lean hashes anything: it is a label: what it is worth is what the hold of that sum in a sandbox is worth. -/
noncomputable def Try.pinned : Pinned := { name := "ytommekhmdmnjlaa", sum := "e71cab36352c546d88781bf26a707002220361478cd6e1f6ed063c4baa941d36", checked := Try.checked }
namespace Rows
def none {H : Type} : Left H := { results := [], args := [] }

/-- 'laws.FnLogs': WHATEVER THE INPUT: true; the input reads as it did. -/
def fnLogsSpec : ChangeSpec := { name := "fnLogs", fn := fun _ => fun
  | [d] => { results := [.lit (.bool true)], args := [d] }
  | _ => none }
def fnLogsRow : OpenClaim := { program := "ytommekhmdmnjlaa", sum := "e71cab36352c546d88781bf26a707002220361478cd6e1f6ed063c4baa941d36", func := "loop.example/g00270/laws.FnLogs", spec := "fnLogs", unfollowed := true, recurses := true, apart := false }
def FnLogsSaid : Prop := fnLogsRow.holds Try.pinned (OpenSpec.ofChange fnLogsSpec)

/-- ITS FALSE NEIGHBOUR: 'it returns false'. Refute it at one input. -/
def fnLogsWrong : ChangeSpec := { name := "fnLogs", fn := fun _ => fun
  | [d] => { results := [.lit (.bool false)], args := [d] }
  | _ => none }
def FnLogsWrongFalsely : Prop := fnLogsRow.holds Try.pinned (OpenSpec.ofChange fnLogsWrong)

/-- 'laws.FnModes': WHATEVER THE INPUT: true; the input reads as it did. -/
def fnModesSpec : ChangeSpec := { name := "fnModes", fn := fun _ => fun
  | [d] => { results := [.lit (.bool true)], args := [d] }
  | _ => none }
def fnModesRow : OpenClaim := { program := "ytommekhmdmnjlaa", sum := "e71cab36352c546d88781bf26a707002220361478cd6e1f6ed063c4baa941d36", func := "loop.example/g00270/laws.FnModes", spec := "fnModes", recurses := true, apart := false }
def FnModesSaid : Prop := fnModesRow.holds Try.pinned (OpenSpec.ofChange fnModesSpec)

/-- ITS FALSE NEIGHBOUR: 'it returns false'. Refute it at one input. -/
def fnModesWrong : ChangeSpec := { name := "fnModes", fn := fun _ => fun
  | [d] => { results := [.lit (.bool false)], args := [d] }
  | _ => none }
def FnModesWrongFalsely : Prop := fnModesRow.holds Try.pinned (OpenSpec.ofChange fnModesWrong)

/-- 'laws.FnExactIsMode': WHATEVER THE INPUT: true; the input reads as it did. -/
def fnExactIsModeSpec : ChangeSpec := { name := "fnExactIsMode", fn := fun _ => fun
  | [d] => { results := [.lit (.bool true)], args := [d] }
  | _ => none }
def fnExactIsModeRow : OpenClaim := { program := "ytommekhmdmnjlaa", sum := "e71cab36352c546d88781bf26a707002220361478cd6e1f6ed063c4baa941d36", func := "loop.example/g00270/laws.FnExactIsMode", spec := "fnExactIsMode", apart := false }
def FnExactIsModeSaid : Prop := fnExactIsModeRow.holds Try.pinned (OpenSpec.ofChange fnExactIsModeSpec)

/-- ITS FALSE NEIGHBOUR: 'it returns false'. Refute it at one input. -/
def fnExactIsModeWrong : ChangeSpec := { name := "fnExactIsMode", fn := fun _ => fun
  | [d] => { results := [.lit (.bool false)], args := [d] }
  | _ => none }
def FnExactIsModeWrongFalsely : Prop := fnExactIsModeRow.holds Try.pinned (OpenSpec.ofChange fnExactIsModeWrong)

/-- 'laws.FnExactFitModes': WHATEVER THE INPUT: true; the input reads as it did. -/
def fnExactFitModesSpec : ChangeSpec := { name := "fnExactFitModes", fn := fun _ => fun
  | [d1, d2] => { results := [.lit (.bool true)], args := [d1, d2] }
  | _ => none }
def fnExactFitModesRow : OpenClaim := { program := "ytommekhmdmnjlaa", sum := "e71cab36352c546d88781bf26a707002220361478cd6e1f6ed063c4baa941d36", func := "loop.example/g00270/laws.FnExactFitModes", spec := "fnExactFitModes", recurses := true, apart := false }
def FnExactFitModesSaid : Prop := fnExactFitModesRow.holds Try.pinned (OpenSpec.ofChange fnExactFitModesSpec)

/-- ITS FALSE NEIGHBOUR: 'it returns false'. Refute it at one input. -/
def fnExactFitModesWrong : ChangeSpec := { name := "fnExactFitModes", fn := fun _ => fun
  | [d1, d2] => { results := [.lit (.bool false)], args := [d1, d2] }
  | _ => none }
def FnExactFitModesWrongFalsely : Prop := fnExactFitModesRow.holds Try.pinned (OpenSpec.ofChange fnExactFitModesWrong)

/-- 'laws.FnExactJoinModes': WHATEVER THE INPUT: true; the input reads as it did. -/
def fnExactJoinModesSpec : ChangeSpec := { name := "fnExactJoinModes", fn := fun _ => fun
  | [d1, d2] => { results := [.lit (.bool true)], args := [d1, d2] }
  | _ => none }
def fnExactJoinModesRow : OpenClaim := { program := "ytommekhmdmnjlaa", sum := "e71cab36352c546d88781bf26a707002220361478cd6e1f6ed063c4baa941d36", func := "loop.example/g00270/laws.FnExactJoinModes", spec := "fnExactJoinModes", apart := false }
def FnExactJoinModesSaid : Prop := fnExactJoinModesRow.holds Try.pinned (OpenSpec.ofChange fnExactJoinModesSpec)

/-- ITS FALSE NEIGHBOUR: 'it returns false'. Refute it at one input. -/
def fnExactJoinModesWrong : ChangeSpec := { name := "fnExactJoinModes", fn := fun _ => fun
  | [d1, d2] => { results := [.lit (.bool false)], args := [d1, d2] }
  | _ => none }
def FnExactJoinModesWrongFalsely : Prop := fnExactJoinModesRow.holds Try.pinned (OpenSpec.ofChange fnExactJoinModesWrong)

/-- 'laws.FnExactCoversMode': WHATEVER THE INPUT: true; the input reads as it did. -/
def fnExactCoversModeSpec : ChangeSpec := { name := "fnExactCoversMode", fn := fun _ => fun
  | [d1, d2] => { results := [.lit (.bool true)], args := [d1, d2] }
  | _ => none }
def fnExactCoversModeRow : OpenClaim := { program := "ytommekhmdmnjlaa", sum := "e71cab36352c546d88781bf26a707002220361478cd6e1f6ed063c4baa941d36", func := "loop.example/g00270/laws.FnExactCoversMode", spec := "fnExactCoversMode", apart := false }
def FnExactCoversModeSaid : Prop := fnExactCoversModeRow.holds Try.pinned (OpenSpec.ofChange fnExactCoversModeSpec)

/-- ITS FALSE NEIGHBOUR: 'it returns false'. Refute it at one input. -/
def fnExactCoversModeWrong : ChangeSpec := { name := "fnExactCoversMode", fn := fun _ => fun
  | [d1, d2] => { results := [.lit (.bool false)], args := [d1, d2] }
  | _ => none }
def FnExactCoversModeWrongFalsely : Prop := fnExactCoversModeRow.holds Try.pinned (OpenSpec.ofChange fnExactCoversModeWrong)

/-- 'laws.FnExactModeText': WHATEVER THE INPUT: true; the input reads as it did. -/
def fnExactModeTextSpec : ChangeSpec := { name := "fnExactModeText", fn := fun _ => fun
  | [d] => { results := [.lit (.bool true)], args := [d] }
  | _ => none }
def fnExactModeTextRow : OpenClaim := { program := "ytommekhmdmnjlaa", sum := "e71cab36352c546d88781bf26a707002220361478cd6e1f6ed063c4baa941d36", func := "loop.example/g00270/laws.FnExactModeText", spec := "fnExactModeText", apart := false }
def FnExactModeTextSaid : Prop := fnExactModeTextRow.holds Try.pinned (OpenSpec.ofChange fnExactModeTextSpec)

/-- ITS FALSE NEIGHBOUR: 'it returns false'. Refute it at one input. -/
def fnExactModeTextWrong : ChangeSpec := { name := "fnExactModeText", fn := fun _ => fun
  | [d] => { results := [.lit (.bool false)], args := [d] }
  | _ => none }
def FnExactModeTextWrongFalsely : Prop := fnExactModeTextRow.holds Try.pinned (OpenSpec.ofChange fnExactModeTextWrong)

/- THE SECOND FORM. 'bulk': how many values and letters a reading holds, each counted each time it is reached (what is shared counts as often as it is met; a slice's spare places count too). A statement '..UptoSaid' is the law's where the arguments, and the package variables that the reading takes, are together of bulk at most 1048576: NARROWER than '..Said'. Prove '..Said' where nothing that the law and all that it calls make is longer than what came in: it says more and counts as full. Else prove '..UptoSaid'. A law counts once. -/
mutual
def uptoBulk {H : Type} : DataW H → Nat
  | .lit (.string bytes) => bytes.length + 1
  | .lit _ => 1
  | .nil => 1
  | .ptr d => uptoBulk d + 1
  | .slice elems spare => uptoBulkAll elems + uptoBulkAll spare + 1
  | .agg parts => uptoBulkAll parts + 1
  | .iface _ d => uptoBulk d + 1
  | .map entries => uptoBulkEntries entries + 1
  | .held _ => 1
def uptoBulkAll {H : Type} : List (DataW H) → Nat
  | [] => 0
  | d :: r => uptoBulk d + uptoBulkAll r
def uptoBulkEntries {H : Type} : List (Lit × DataW H) → Nat
  | [] => 0
  | x :: r => uptoBulkEntry x + uptoBulkEntries r
def uptoBulkEntry {H : Type} : Lit × DataW H → Nat
  | (.string bytes, d) => bytes.length + uptoBulk d + 1
  | (_, d) => uptoBulk d + 1
 end
def uptoSmall : (H : Type) → List (DataW H) → Bool := fun _ ds => decide (uptoBulkAll ds ≤ 1048576)
def OpenSpec.upto (s : _root_.Go.ChangeSpec) : _root_.Go.OpenSpec := { _root_.Go.OpenSpec.ofChange s with cond := some uptoSmall }

/-- 'laws.FnLogs', WHERE WHAT IT READS IS OF BULK AT MOST 1048576: true; the input reads as it did. -/
def fnLogsUptoRow : OpenClaim := { program := "ytommekhmdmnjlaa", sum := "e71cab36352c546d88781bf26a707002220361478cd6e1f6ed063c4baa941d36", func := "loop.example/g00270/laws.FnLogs", spec := "fnLogs", unfollowed := true, recurses := true, apart := false, narrowed := true }
def FnLogsUptoSaid : Prop := fnLogsUptoRow.holds Try.pinned (OpenSpec.upto fnLogsSpec)

/-- 'laws.FnModes', WHERE WHAT IT READS IS OF BULK AT MOST 1048576: true; the input reads as it did. -/
def fnModesUptoRow : OpenClaim := { program := "ytommekhmdmnjlaa", sum := "e71cab36352c546d88781bf26a707002220361478cd6e1f6ed063c4baa941d36", func := "loop.example/g00270/laws.FnModes", spec := "fnModes", recurses := true, apart := false, narrowed := true }
def FnModesUptoSaid : Prop := fnModesUptoRow.holds Try.pinned (OpenSpec.upto fnModesSpec)

/-- 'laws.FnExactIsMode', WHERE WHAT IT READS IS OF BULK AT MOST 1048576: true; the input reads as it did. -/
def fnExactIsModeUptoRow : OpenClaim := { program := "ytommekhmdmnjlaa", sum := "e71cab36352c546d88781bf26a707002220361478cd6e1f6ed063c4baa941d36", func := "loop.example/g00270/laws.FnExactIsMode", spec := "fnExactIsMode", apart := false, narrowed := true }
def FnExactIsModeUptoSaid : Prop := fnExactIsModeUptoRow.holds Try.pinned (OpenSpec.upto fnExactIsModeSpec)

/-- 'laws.FnExactFitModes', WHERE WHAT IT READS IS OF BULK AT MOST 1048576: true; the input reads as it did. -/
def fnExactFitModesUptoRow : OpenClaim := { program := "ytommekhmdmnjlaa", sum := "e71cab36352c546d88781bf26a707002220361478cd6e1f6ed063c4baa941d36", func := "loop.example/g00270/laws.FnExactFitModes", spec := "fnExactFitModes", recurses := true, apart := false, narrowed := true }
def FnExactFitModesUptoSaid : Prop := fnExactFitModesUptoRow.holds Try.pinned (OpenSpec.upto fnExactFitModesSpec)

/-- 'laws.FnExactJoinModes', WHERE WHAT IT READS IS OF BULK AT MOST 1048576: true; the input reads as it did. -/
def fnExactJoinModesUptoRow : OpenClaim := { program := "ytommekhmdmnjlaa", sum := "e71cab36352c546d88781bf26a707002220361478cd6e1f6ed063c4baa941d36", func := "loop.example/g00270/laws.FnExactJoinModes", spec := "fnExactJoinModes", apart := false, narrowed := true }
def FnExactJoinModesUptoSaid : Prop := fnExactJoinModesUptoRow.holds Try.pinned (OpenSpec.upto fnExactJoinModesSpec)

/-- 'laws.FnExactCoversMode', WHERE WHAT IT READS IS OF BULK AT MOST 1048576: true; the input reads as it did. -/
def fnExactCoversModeUptoRow : OpenClaim := { program := "ytommekhmdmnjlaa", sum := "e71cab36352c546d88781bf26a707002220361478cd6e1f6ed063c4baa941d36", func := "loop.example/g00270/laws.FnExactCoversMode", spec := "fnExactCoversMode", apart := false, narrowed := true }
def FnExactCoversModeUptoSaid : Prop := fnExactCoversModeUptoRow.holds Try.pinned (OpenSpec.upto fnExactCoversModeSpec)

/-- 'laws.FnExactModeText', WHERE WHAT IT READS IS OF BULK AT MOST 1048576: true; the input reads as it did. -/
def fnExactModeTextUptoRow : OpenClaim := { program := "ytommekhmdmnjlaa", sum := "e71cab36352c546d88781bf26a707002220361478cd6e1f6ed063c4baa941d36", func := "loop.example/g00270/laws.FnExactModeText", spec := "fnExactModeText", apart := false, narrowed := true }
def FnExactModeTextUptoSaid : Prop := fnExactModeTextUptoRow.holds Try.pinned (OpenSpec.upto fnExactModeTextSpec)

end Rows
end Go.Proofs.Ytommekhmdmnjlaa
