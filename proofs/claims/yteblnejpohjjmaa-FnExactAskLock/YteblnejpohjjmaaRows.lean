/-
  No cell of these rows narrows 'for every input' (looked for: loops, veiled, ifaces, maps, wideKeys, modest, calm, conditions, laid).
  DERIVED. THE GIVEN ROWS OF THIS SEAT. 8 by the template 'for every input the law returns true; each argument reads behind the call as it read before'; 0 by the template 'total and deterministic' (their statements: YteblnejpohjjmaaTotals.lean).
  GIVEN WITH THE SEED: the statements are not yours to turn. If you find one false, say at which input.
  Laid BY PROGRAM, IN A SANDBOX (cutbox-rows.mjs): the forced cells as the released guide's own fill.sh prints them over the translation 5ec9bd162834f171… (all of the seat's roots in one cut). By AI agents, Wed Nov 11 2026. No macro, syntax, notation, axiom, sorry.
-/
import Derived.Test.YteblnejpohjjmaaChecked
import GoSem.Claim
import GoSem.ClaimJoined
import GoSem.ClaimMapViews
import Derived.JoinedTies
import Derived.KernelRfl
namespace Go.Proofs.Yteblnejpohjjmaa
/- THE CELL 'sum', in the pinned program and in every row, IS THE sha256 OF THE DUMP (.gsa) THAT YteblnejpohjjmaaProg.lean LOADS. Nothing in Lean hashes anything: it is a label: what it is worth is what the hold of that sum in a sandbox is worth. -/
noncomputable def Try.pinned : Pinned := { name := "yteblnejpohjjmaa", sum := "5ec9bd162834f17147306fed6e4c3a775889b141c988345283662a7b8220fd60", checked := Try.checked }
namespace Rows
def none {H : Type} : Left H := { results := [], args := [] }

/-- 'laws.FnAsks': WHATEVER THE INPUT: true; the input reads as it did. -/
def fnAsksSpec : ChangeSpec := { name := "fnAsks", fn := fun _ => fun
  | [d] => { results := [.lit (.bool true)], args := [d] }
  | _ => none }
def fnAsksRow : OpenClaim := { program := "yteblnejpohjjmaa", sum := "5ec9bd162834f17147306fed6e4c3a775889b141c988345283662a7b8220fd60", func := "loop.example/g00270/laws.FnAsks", spec := "fnAsks", inPlace := ["slices.overlaps[loop.example/g00270/impl.openLock]", "slices.overlaps[loop.example/g00270/impl.Hold]"], recurses := true, apart := false }
def FnAsksSaid : Prop := fnAsksRow.holds Try.pinned (OpenSpec.ofChange fnAsksSpec)

/-- ITS FALSE NEIGHBOUR: 'it returns false'. Refute it at one input. -/
def fnAsksWrong : ChangeSpec := { name := "fnAsks", fn := fun _ => fun
  | [d] => { results := [.lit (.bool false)], args := [d] }
  | _ => none }
def FnAsksWrongFalsely : Prop := fnAsksRow.holds Try.pinned (OpenSpec.ofChange fnAsksWrong)

/-- 'laws.FnFrees': WHATEVER THE INPUT: true; the input reads as it did. -/
def fnFreesSpec : ChangeSpec := { name := "fnFrees", fn := fun _ => fun
  | [d] => { results := [.lit (.bool true)], args := [d] }
  | _ => none }
def fnFreesRow : OpenClaim := { program := "yteblnejpohjjmaa", sum := "5ec9bd162834f17147306fed6e4c3a775889b141c988345283662a7b8220fd60", func := "loop.example/g00270/laws.FnFrees", spec := "fnFrees", recurses := true, apart := false }
def FnFreesSaid : Prop := fnFreesRow.holds Try.pinned (OpenSpec.ofChange fnFreesSpec)

/-- ITS FALSE NEIGHBOUR: 'it returns false'. Refute it at one input. -/
def fnFreesWrong : ChangeSpec := { name := "fnFrees", fn := fun _ => fun
  | [d] => { results := [.lit (.bool false)], args := [d] }
  | _ => none }
def FnFreesWrongFalsely : Prop := fnFreesRow.holds Try.pinned (OpenSpec.ofChange fnFreesWrong)

/-- 'laws.FnExactLocksFault': WHATEVER THE INPUT: true; the input reads as it did. -/
def fnExactLocksFaultSpec : ChangeSpec := { name := "fnExactLocksFault", fn := fun _ => fun
  | [d] => { results := [.lit (.bool true)], args := [d] }
  | _ => none }
def fnExactLocksFaultRow : OpenClaim := { program := "yteblnejpohjjmaa", sum := "5ec9bd162834f17147306fed6e4c3a775889b141c988345283662a7b8220fd60", func := "loop.example/g00270/laws.FnExactLocksFault", spec := "fnExactLocksFault", recurses := true, apart := false }
def FnExactLocksFaultSaid : Prop := fnExactLocksFaultRow.holds Try.pinned (OpenSpec.ofChange fnExactLocksFaultSpec)

/-- ITS FALSE NEIGHBOUR: 'it returns false'. Refute it at one input. -/
def fnExactLocksFaultWrong : ChangeSpec := { name := "fnExactLocksFault", fn := fun _ => fun
  | [d] => { results := [.lit (.bool false)], args := [d] }
  | _ => none }
def FnExactLocksFaultWrongFalsely : Prop := fnExactLocksFaultRow.holds Try.pinned (OpenSpec.ofChange fnExactLocksFaultWrong)

/-- 'laws.FnExactAskLock': WHATEVER THE INPUT: true; the input reads as it did. -/
def fnExactAskLockSpec : ChangeSpec := { name := "fnExactAskLock", fn := fun _ => fun
  | [d1, d2, d3, d4] => { results := [.lit (.bool true)], args := [d1, d2, d3, d4] }
  | _ => none }
def fnExactAskLockRow : OpenClaim := { program := "yteblnejpohjjmaa", sum := "5ec9bd162834f17147306fed6e4c3a775889b141c988345283662a7b8220fd60", func := "loop.example/g00270/laws.FnExactAskLock", spec := "fnExactAskLock", inPlace := ["slices.overlaps[loop.example/g00270/impl.openLock]", "slices.overlaps[loop.example/g00270/impl.Hold]"], recurses := true, apart := false }
def FnExactAskLockSaid : Prop := fnExactAskLockRow.holds Try.pinned (OpenSpec.ofChange fnExactAskLockSpec)

/-- ITS FALSE NEIGHBOUR: 'it returns false'. Refute it at one input. -/
def fnExactAskLockWrong : ChangeSpec := { name := "fnExactAskLock", fn := fun _ => fun
  | [d1, d2, d3, d4] => { results := [.lit (.bool false)], args := [d1, d2, d3, d4] }
  | _ => none }
def FnExactAskLockWrongFalsely : Prop := fnExactAskLockRow.holds Try.pinned (OpenSpec.ofChange fnExactAskLockWrong)

/-- 'laws.FnExactFreeLocks': WHATEVER THE INPUT: true; the input reads as it did. -/
def fnExactFreeLocksSpec : ChangeSpec := { name := "fnExactFreeLocks", fn := fun _ => fun
  | [d1, d2] => { results := [.lit (.bool true)], args := [d1, d2] }
  | _ => none }
def fnExactFreeLocksRow : OpenClaim := { program := "yteblnejpohjjmaa", sum := "5ec9bd162834f17147306fed6e4c3a775889b141c988345283662a7b8220fd60", func := "loop.example/g00270/laws.FnExactFreeLocks", spec := "fnExactFreeLocks", recurses := true, apart := false }
def FnExactFreeLocksSaid : Prop := fnExactFreeLocksRow.holds Try.pinned (OpenSpec.ofChange fnExactFreeLocksSpec)

/-- ITS FALSE NEIGHBOUR: 'it returns false'. Refute it at one input. -/
def fnExactFreeLocksWrong : ChangeSpec := { name := "fnExactFreeLocks", fn := fun _ => fun
  | [d1, d2] => { results := [.lit (.bool false)], args := [d1, d2] }
  | _ => none }
def FnExactFreeLocksWrongFalsely : Prop := fnExactFreeLocksRow.holds Try.pinned (OpenSpec.ofChange fnExactFreeLocksWrong)

/-- 'laws.FnExactModeOf': WHATEVER THE INPUT: true; the input reads as it did. -/
def fnExactModeOfSpec : ChangeSpec := { name := "fnExactModeOf", fn := fun _ => fun
  | [d1, d2, d3] => { results := [.lit (.bool true)], args := [d1, d2, d3] }
  | _ => none }
def fnExactModeOfRow : OpenClaim := { program := "yteblnejpohjjmaa", sum := "5ec9bd162834f17147306fed6e4c3a775889b141c988345283662a7b8220fd60", func := "loop.example/g00270/laws.FnExactModeOf", spec := "fnExactModeOf", recurses := true, apart := false }
def FnExactModeOfSaid : Prop := fnExactModeOfRow.holds Try.pinned (OpenSpec.ofChange fnExactModeOfSpec)

/-- ITS FALSE NEIGHBOUR: 'it returns false'. Refute it at one input. -/
def fnExactModeOfWrong : ChangeSpec := { name := "fnExactModeOf", fn := fun _ => fun
  | [d1, d2, d3] => { results := [.lit (.bool false)], args := [d1, d2, d3] }
  | _ => none }
def FnExactModeOfWrongFalsely : Prop := fnExactModeOfRow.holds Try.pinned (OpenSpec.ofChange fnExactModeOfWrong)

/-- 'laws.FnExactWaitsAt': WHATEVER THE INPUT: true; the input reads as it did. -/
def fnExactWaitsAtSpec : ChangeSpec := { name := "fnExactWaitsAt", fn := fun _ => fun
  | [d1, d2] => { results := [.lit (.bool true)], args := [d1, d2] }
  | _ => none }
def fnExactWaitsAtRow : OpenClaim := { program := "yteblnejpohjjmaa", sum := "5ec9bd162834f17147306fed6e4c3a775889b141c988345283662a7b8220fd60", func := "loop.example/g00270/laws.FnExactWaitsAt", spec := "fnExactWaitsAt", recurses := true, apart := false }
def FnExactWaitsAtSaid : Prop := fnExactWaitsAtRow.holds Try.pinned (OpenSpec.ofChange fnExactWaitsAtSpec)

/-- ITS FALSE NEIGHBOUR: 'it returns false'. Refute it at one input. -/
def fnExactWaitsAtWrong : ChangeSpec := { name := "fnExactWaitsAt", fn := fun _ => fun
  | [d1, d2] => { results := [.lit (.bool false)], args := [d1, d2] }
  | _ => none }
def FnExactWaitsAtWrongFalsely : Prop := fnExactWaitsAtRow.holds Try.pinned (OpenSpec.ofChange fnExactWaitsAtWrong)

/-- 'laws.FnExactResOf': WHATEVER THE INPUT: true; the input reads as it did. -/
def fnExactResOfSpec : ChangeSpec := { name := "fnExactResOf", fn := fun _ => fun
  | [d1, d2] => { results := [.lit (.bool true)], args := [d1, d2] }
  | _ => none }
def fnExactResOfRow : OpenClaim := { program := "yteblnejpohjjmaa", sum := "5ec9bd162834f17147306fed6e4c3a775889b141c988345283662a7b8220fd60", func := "loop.example/g00270/laws.FnExactResOf", spec := "fnExactResOf", recurses := true, apart := false }
def FnExactResOfSaid : Prop := fnExactResOfRow.holds Try.pinned (OpenSpec.ofChange fnExactResOfSpec)

/-- ITS FALSE NEIGHBOUR: 'it returns false'. Refute it at one input. -/
def fnExactResOfWrong : ChangeSpec := { name := "fnExactResOf", fn := fun _ => fun
  | [d1, d2] => { results := [.lit (.bool false)], args := [d1, d2] }
  | _ => none }
def FnExactResOfWrongFalsely : Prop := fnExactResOfRow.holds Try.pinned (OpenSpec.ofChange fnExactResOfWrong)

/- THE SECOND FORM. 'bulk': how many values and letters a reading holds, each counted each time it is reached (what is shared counts as often as it is met; a slice's spare places count too). A statement '..UptoSaid' is the law's where the arguments, and the package variables that the reading takes, are together of bulk at most 1048576: NARROWER than '..Said'. Prove '..Said' where nothing that the law and all that it calls make is longer than what came in: it says more and counts as full. Else prove '..UptoSaid'. A law counts once. -/
mutual
def uptoBulk {H : Type} : DataW H → Nat
  | .lit (.string bytes) => bytes.length + 1
  | .lit _ => 1
  | .nil => 1
  | .ptr d => uptoBulk d + 1
  | .slice elems spare => uptoBulkAll elems + uptoBulkAll spare + 1
  | .agg parts => uptoBulkAll parts + 1
  | .iface _ d => uptoBulk d + 1
  | .map entries => uptoBulkEntries entries + 1
  | .held _ => 1
def uptoBulkAll {H : Type} : List (DataW H) → Nat
  | [] => 0
  | d :: r => uptoBulk d + uptoBulkAll r
def uptoBulkEntries {H : Type} : List (Lit × DataW H) → Nat
  | [] => 0
  | x :: r => uptoBulkEntry x + uptoBulkEntries r
def uptoBulkEntry {H : Type} : Lit × DataW H → Nat
  | (.string bytes, d) => bytes.length + uptoBulk d + 1
  | (_, d) => uptoBulk d + 1
 end
def uptoSmall : (H : Type) → List (DataW H) → Bool := fun _ ds => decide (uptoBulkAll ds ≤ 1048576)
def OpenSpec.upto (s : _root_.Go.ChangeSpec) : _root_.Go.OpenSpec := { _root_.Go.OpenSpec.ofChange s with cond := some uptoSmall }

/-- 'laws.FnAsks', WHERE WHAT IT READS IS OF BULK AT MOST 1048576: true; the input reads as it did. -/
def fnAsksUptoRow : OpenClaim := { program := "yteblnejpohjjmaa", sum := "5ec9bd162834f17147306fed6e4c3a775889b141c988345283662a7b8220fd60", func := "loop.example/g00270/laws.FnAsks", spec := "fnAsks", inPlace := ["slices.overlaps[loop.example/g00270/impl.openLock]", "slices.overlaps[loop.example/g00270/impl.Hold]"], recurses := true, apart := false, narrowed := true }
def FnAsksUptoSaid : Prop := fnAsksUptoRow.holds Try.pinned (OpenSpec.upto fnAsksSpec)

/-- 'laws.FnFrees', WHERE WHAT IT READS IS OF BULK AT MOST 1048576: true; the input reads as it did. -/
def fnFreesUptoRow : OpenClaim := { program := "yteblnejpohjjmaa", sum := "5ec9bd162834f17147306fed6e4c3a775889b141c988345283662a7b8220fd60", func := "loop.example/g00270/laws.FnFrees", spec := "fnFrees", recurses := true, apart := false, narrowed := true }
def FnFreesUptoSaid : Prop := fnFreesUptoRow.holds Try.pinned (OpenSpec.upto fnFreesSpec)

/-- 'laws.FnExactLocksFault', WHERE WHAT IT READS IS OF BULK AT MOST 1048576: true; the input reads as it did. -/
def fnExactLocksFaultUptoRow : OpenClaim := { program := "yteblnejpohjjmaa", sum := "5ec9bd162834f17147306fed6e4c3a775889b141c988345283662a7b8220fd60", func := "loop.example/g00270/laws.FnExactLocksFault", spec := "fnExactLocksFault", recurses := true, apart := false, narrowed := true }
def FnExactLocksFaultUptoSaid : Prop := fnExactLocksFaultUptoRow.holds Try.pinned (OpenSpec.upto fnExactLocksFaultSpec)

/-- 'laws.FnExactAskLock', WHERE WHAT IT READS IS OF BULK AT MOST 1048576: true; the input reads as it did. -/
def fnExactAskLockUptoRow : OpenClaim := { program := "yteblnejpohjjmaa", sum := "5ec9bd162834f17147306fed6e4c3a775889b141c988345283662a7b8220fd60", func := "loop.example/g00270/laws.FnExactAskLock", spec := "fnExactAskLock", inPlace := ["slices.overlaps[loop.example/g00270/impl.openLock]", "slices.overlaps[loop.example/g00270/impl.Hold]"], recurses := true, apart := false, narrowed := true }
def FnExactAskLockUptoSaid : Prop := fnExactAskLockUptoRow.holds Try.pinned (OpenSpec.upto fnExactAskLockSpec)

/-- 'laws.FnExactFreeLocks', WHERE WHAT IT READS IS OF BULK AT MOST 1048576: true; the input reads as it did. -/
def fnExactFreeLocksUptoRow : OpenClaim := { program := "yteblnejpohjjmaa", sum := "5ec9bd162834f17147306fed6e4c3a775889b141c988345283662a7b8220fd60", func := "loop.example/g00270/laws.FnExactFreeLocks", spec := "fnExactFreeLocks", recurses := true, apart := false, narrowed := true }
def FnExactFreeLocksUptoSaid : Prop := fnExactFreeLocksUptoRow.holds Try.pinned (OpenSpec.upto fnExactFreeLocksSpec)

/-- 'laws.FnExactModeOf', WHERE WHAT IT READS IS OF BULK AT MOST 1048576: true; the input reads as it did. -/
def fnExactModeOfUptoRow : OpenClaim := { program := "yteblnejpohjjmaa", sum := "5ec9bd162834f17147306fed6e4c3a775889b141c988345283662a7b8220fd60", func := "loop.example/g00270/laws.FnExactModeOf", spec := "fnExactModeOf", recurses := true, apart := false, narrowed := true }
def FnExactModeOfUptoSaid : Prop := fnExactModeOfUptoRow.holds Try.pinned (OpenSpec.upto fnExactModeOfSpec)

/-- 'laws.FnExactWaitsAt', WHERE WHAT IT READS IS OF BULK AT MOST 1048576: true; the input reads as it did. -/
def fnExactWaitsAtUptoRow : OpenClaim := { program := "yteblnejpohjjmaa", sum := "5ec9bd162834f17147306fed6e4c3a775889b141c988345283662a7b8220fd60", func := "loop.example/g00270/laws.FnExactWaitsAt", spec := "fnExactWaitsAt", recurses := true, apart := false, narrowed := true }
def FnExactWaitsAtUptoSaid : Prop := fnExactWaitsAtUptoRow.holds Try.pinned (OpenSpec.upto fnExactWaitsAtSpec)

/-- 'laws.FnExactResOf', WHERE WHAT IT READS IS OF BULK AT MOST 1048576: true; the input reads as it did. -/
def fnExactResOfUptoRow : OpenClaim := { program := "yteblnejpohjjmaa", sum := "5ec9bd162834f17147306fed6e4c3a775889b141c988345283662a7b8220fd60", func := "loop.example/g00270/laws.FnExactResOf", spec := "fnExactResOf", recurses := true, apart := false, narrowed := true }
def FnExactResOfUptoSaid : Prop := fnExactResOfUptoRow.holds Try.pinned (OpenSpec.upto fnExactResOfSpec)

end Rows
end Go.Proofs.Yteblnejpohjjmaa
