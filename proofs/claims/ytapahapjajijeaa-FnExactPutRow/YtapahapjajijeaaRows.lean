/-
  No cell of these rows narrows 'for every input' (looked for: loops, veiled, ifaces, maps, wideKeys, modest, calm, conditions, laid).
  DERIVED. THE GIVEN ROWS OF THIS SEAT. 12 by the template 'for every input the law returns true; each argument reads behind the call as it read before'; 0 by the template 'total and deterministic' (their statements: YtapahapjajijeaaTotals.lean).
  GIVEN WITH THE SEED: the statements are not yours to turn. If you find one false, say at which input.
  Laid BY PROGRAM, IN A SANDBOX (cutbox-rows.mjs): the forced cells as the released guide's own fill.sh prints them over the translation cf11aa219a7865e6… (all of the seat's roots in one cut). By AI agents, Wed Nov 11 2026. No macro, syntax, notation, axiom, sorry.
-/
import Derived.Test.YtapahapjajijeaaChecked
import GoSem.Claim
import GoSem.ClaimJoined
import GoSem.ClaimMapViews
import Derived.JoinedTies
import Derived.KernelRfl
namespace Go.Proofs.Ytapahapjajijeaa
/- THE CELL 'sum', in the pinned program and in every row, IS THE sha256 OF THE DUMP (.gsa) THAT YtapahapjajijeaaProg.lean LOADS. Nothing in Lean hashes anything: it is a label: what it is worth is what the hold of that sum in a sandbox is worth. -/
noncomputable def Try.pinned : Pinned := { name := "ytapahapjajijeaa", sum := "cf11aa219a7865e60a234e5bbb3e376d5d7918be04f765b0983df50c32bb75e3", checked := Try.checked }
namespace Rows
def none {H : Type} : Left H := { results := [], args := [] }

/-- 'laws.FnRecs': WHATEVER THE INPUT: true; the input reads as it did. -/
def fnRecsSpec : ChangeSpec := { name := "fnRecs", fn := fun _ => fun
  | [d] => { results := [.lit (.bool true)], args := [d] }
  | _ => none }
def fnRecsRow : OpenClaim := { program := "ytapahapjajijeaa", sum := "cf11aa219a7865e60a234e5bbb3e376d5d7918be04f765b0983df50c32bb75e3", func := "loop.example/g00270/laws.FnRecs", spec := "fnRecs", unfollowed := true, recurses := true, apart := false }
def FnRecsSaid : Prop := fnRecsRow.holds Try.pinned (OpenSpec.ofChange fnRecsSpec)

/-- ITS FALSE NEIGHBOUR: 'it returns false'. Refute it at one input. -/
def fnRecsWrong : ChangeSpec := { name := "fnRecs", fn := fun _ => fun
  | [d] => { results := [.lit (.bool false)], args := [d] }
  | _ => none }
def FnRecsWrongFalsely : Prop := fnRecsRow.holds Try.pinned (OpenSpec.ofChange fnRecsWrong)

/-- 'laws.FnLogs': WHATEVER THE INPUT: true; the input reads as it did. -/
def fnLogsSpec : ChangeSpec := { name := "fnLogs", fn := fun _ => fun
  | [d] => { results := [.lit (.bool true)], args := [d] }
  | _ => none }
def fnLogsRow : OpenClaim := { program := "ytapahapjajijeaa", sum := "cf11aa219a7865e60a234e5bbb3e376d5d7918be04f765b0983df50c32bb75e3", func := "loop.example/g00270/laws.FnLogs", spec := "fnLogs", unfollowed := true, recurses := true, apart := false }
def FnLogsSaid : Prop := fnLogsRow.holds Try.pinned (OpenSpec.ofChange fnLogsSpec)

/-- ITS FALSE NEIGHBOUR: 'it returns false'. Refute it at one input. -/
def fnLogsWrong : ChangeSpec := { name := "fnLogs", fn := fun _ => fun
  | [d] => { results := [.lit (.bool false)], args := [d] }
  | _ => none }
def FnLogsWrongFalsely : Prop := fnLogsRow.holds Try.pinned (OpenSpec.ofChange fnLogsWrong)

/-- 'laws.FnLeaves': WHATEVER THE INPUT: true; the input reads as it did. -/
def fnLeavesSpec : ChangeSpec := { name := "fnLeaves", fn := fun _ => fun
  | [d] => { results := [.lit (.bool true)], args := [d] }
  | _ => none }
def fnLeavesRow : OpenClaim := { program := "ytapahapjajijeaa", sum := "cf11aa219a7865e60a234e5bbb3e376d5d7918be04f765b0983df50c32bb75e3", func := "loop.example/g00270/laws.FnLeaves", spec := "fnLeaves", inPlace := ["slices.overlaps[loop.example/g00270/impl.Row]", "slices.overlaps[loop.example/g00270/impl.Leaf]"], apart := false }
def FnLeavesSaid : Prop := fnLeavesRow.holds Try.pinned (OpenSpec.ofChange fnLeavesSpec)

/-- ITS FALSE NEIGHBOUR: 'it returns false'. Refute it at one input. -/
def fnLeavesWrong : ChangeSpec := { name := "fnLeaves", fn := fun _ => fun
  | [d] => { results := [.lit (.bool false)], args := [d] }
  | _ => none }
def FnLeavesWrongFalsely : Prop := fnLeavesRow.holds Try.pinned (OpenSpec.ofChange fnLeavesWrong)

/-- 'laws.FnExactAppendWal': WHATEVER THE INPUT: true; the input reads as it did. -/
def fnExactAppendWalSpec : ChangeSpec := { name := "fnExactAppendWal", fn := fun _ => fun
  | [d1, d2] => { results := [.lit (.bool true)], args := [d1, d2] }
  | _ => none }
def fnExactAppendWalRow : OpenClaim := { program := "ytapahapjajijeaa", sum := "cf11aa219a7865e60a234e5bbb3e376d5d7918be04f765b0983df50c32bb75e3", func := "loop.example/g00270/laws.FnExactAppendWal", spec := "fnExactAppendWal", unfollowed := true, recurses := true, apart := false }
def FnExactAppendWalSaid : Prop := fnExactAppendWalRow.holds Try.pinned (OpenSpec.ofChange fnExactAppendWalSpec)

/-- ITS FALSE NEIGHBOUR: 'it returns false'. Refute it at one input. -/
def fnExactAppendWalWrong : ChangeSpec := { name := "fnExactAppendWal", fn := fun _ => fun
  | [d1, d2] => { results := [.lit (.bool false)], args := [d1, d2] }
  | _ => none }
def FnExactAppendWalWrongFalsely : Prop := fnExactAppendWalRow.holds Try.pinned (OpenSpec.ofChange fnExactAppendWalWrong)

/-- 'laws.FnExactCrashWal': WHATEVER THE INPUT: true; the input reads as it did. -/
def fnExactCrashWalSpec : ChangeSpec := { name := "fnExactCrashWal", fn := fun _ => fun
  | [d1, d2] => { results := [.lit (.bool true)], args := [d1, d2] }
  | _ => none }
def fnExactCrashWalRow : OpenClaim := { program := "ytapahapjajijeaa", sum := "cf11aa219a7865e60a234e5bbb3e376d5d7918be04f765b0983df50c32bb75e3", func := "loop.example/g00270/laws.FnExactCrashWal", spec := "fnExactCrashWal", unfollowed := true, recurses := true, apart := false }
def FnExactCrashWalSaid : Prop := fnExactCrashWalRow.holds Try.pinned (OpenSpec.ofChange fnExactCrashWalSpec)

/-- ITS FALSE NEIGHBOUR: 'it returns false'. Refute it at one input. -/
def fnExactCrashWalWrong : ChangeSpec := { name := "fnExactCrashWal", fn := fun _ => fun
  | [d1, d2] => { results := [.lit (.bool false)], args := [d1, d2] }
  | _ => none }
def FnExactCrashWalWrongFalsely : Prop := fnExactCrashWalRow.holds Try.pinned (OpenSpec.ofChange fnExactCrashWalWrong)

/-- 'laws.FnExactLeavesFault': WHATEVER THE INPUT: true; the input reads as it did. -/
def fnExactLeavesFaultSpec : ChangeSpec := { name := "fnExactLeavesFault", fn := fun _ => fun
  | [d] => { results := [.lit (.bool true)], args := [d] }
  | _ => none }
def fnExactLeavesFaultRow : OpenClaim := { program := "ytapahapjajijeaa", sum := "cf11aa219a7865e60a234e5bbb3e376d5d7918be04f765b0983df50c32bb75e3", func := "loop.example/g00270/laws.FnExactLeavesFault", spec := "fnExactLeavesFault", apart := false }
def FnExactLeavesFaultSaid : Prop := fnExactLeavesFaultRow.holds Try.pinned (OpenSpec.ofChange fnExactLeavesFaultSpec)

/-- ITS FALSE NEIGHBOUR: 'it returns false'. Refute it at one input. -/
def fnExactLeavesFaultWrong : ChangeSpec := { name := "fnExactLeavesFault", fn := fun _ => fun
  | [d] => { results := [.lit (.bool false)], args := [d] }
  | _ => none }
def FnExactLeavesFaultWrongFalsely : Prop := fnExactLeavesFaultRow.holds Try.pinned (OpenSpec.ofChange fnExactLeavesFaultWrong)

/-- 'laws.FnExactLeafFor': WHATEVER THE INPUT: true; the input reads as it did. -/
def fnExactLeafForSpec : ChangeSpec := { name := "fnExactLeafFor", fn := fun _ => fun
  | [d1, d2] => { results := [.lit (.bool true)], args := [d1, d2] }
  | _ => none }
def fnExactLeafForRow : OpenClaim := { program := "ytapahapjajijeaa", sum := "cf11aa219a7865e60a234e5bbb3e376d5d7918be04f765b0983df50c32bb75e3", func := "loop.example/g00270/laws.FnExactLeafFor", spec := "fnExactLeafFor", apart := false }
def FnExactLeafForSaid : Prop := fnExactLeafForRow.holds Try.pinned (OpenSpec.ofChange fnExactLeafForSpec)

/-- ITS FALSE NEIGHBOUR: 'it returns false'. Refute it at one input. -/
def fnExactLeafForWrong : ChangeSpec := { name := "fnExactLeafFor", fn := fun _ => fun
  | [d1, d2] => { results := [.lit (.bool false)], args := [d1, d2] }
  | _ => none }
def FnExactLeafForWrongFalsely : Prop := fnExactLeafForRow.holds Try.pinned (OpenSpec.ofChange fnExactLeafForWrong)

/-- 'laws.FnExactFindRow': WHATEVER THE INPUT: true; the input reads as it did. -/
def fnExactFindRowSpec : ChangeSpec := { name := "fnExactFindRow", fn := fun _ => fun
  | [d1, d2] => { results := [.lit (.bool true)], args := [d1, d2] }
  | _ => none }
def fnExactFindRowRow : OpenClaim := { program := "ytapahapjajijeaa", sum := "cf11aa219a7865e60a234e5bbb3e376d5d7918be04f765b0983df50c32bb75e3", func := "loop.example/g00270/laws.FnExactFindRow", spec := "fnExactFindRow", apart := false }
def FnExactFindRowSaid : Prop := fnExactFindRowRow.holds Try.pinned (OpenSpec.ofChange fnExactFindRowSpec)

/-- ITS FALSE NEIGHBOUR: 'it returns false'. Refute it at one input. -/
def fnExactFindRowWrong : ChangeSpec := { name := "fnExactFindRow", fn := fun _ => fun
  | [d1, d2] => { results := [.lit (.bool false)], args := [d1, d2] }
  | _ => none }
def FnExactFindRowWrongFalsely : Prop := fnExactFindRowRow.holds Try.pinned (OpenSpec.ofChange fnExactFindRowWrong)

/-- 'laws.FnExactPutRow': WHATEVER THE INPUT: true; the input reads as it did. -/
def fnExactPutRowSpec : ChangeSpec := { name := "fnExactPutRow", fn := fun _ => fun
  | [d1, d2] => { results := [.lit (.bool true)], args := [d1, d2] }
  | _ => none }
def fnExactPutRowRow : OpenClaim := { program := "ytapahapjajijeaa", sum := "cf11aa219a7865e60a234e5bbb3e376d5d7918be04f765b0983df50c32bb75e3", func := "loop.example/g00270/laws.FnExactPutRow", spec := "fnExactPutRow", inPlace := ["slices.overlaps[loop.example/g00270/impl.Row]", "slices.overlaps[loop.example/g00270/impl.Leaf]"], apart := false }
def FnExactPutRowSaid : Prop := fnExactPutRowRow.holds Try.pinned (OpenSpec.ofChange fnExactPutRowSpec)

/-- ITS FALSE NEIGHBOUR: 'it returns false'. Refute it at one input. -/
def fnExactPutRowWrong : ChangeSpec := { name := "fnExactPutRow", fn := fun _ => fun
  | [d1, d2] => { results := [.lit (.bool false)], args := [d1, d2] }
  | _ => none }
def FnExactPutRowWrongFalsely : Prop := fnExactPutRowRow.holds Try.pinned (OpenSpec.ofChange fnExactPutRowWrong)

/-- 'laws.FnExactDropRow': WHATEVER THE INPUT: true; the input reads as it did. -/
def fnExactDropRowSpec : ChangeSpec := { name := "fnExactDropRow", fn := fun _ => fun
  | [d1, d2] => { results := [.lit (.bool true)], args := [d1, d2] }
  | _ => none }
def fnExactDropRowRow : OpenClaim := { program := "ytapahapjajijeaa", sum := "cf11aa219a7865e60a234e5bbb3e376d5d7918be04f765b0983df50c32bb75e3", func := "loop.example/g00270/laws.FnExactDropRow", spec := "fnExactDropRow", apart := false }
def FnExactDropRowSaid : Prop := fnExactDropRowRow.holds Try.pinned (OpenSpec.ofChange fnExactDropRowSpec)

/-- ITS FALSE NEIGHBOUR: 'it returns false'. Refute it at one input. -/
def fnExactDropRowWrong : ChangeSpec := { name := "fnExactDropRow", fn := fun _ => fun
  | [d1, d2] => { results := [.lit (.bool false)], args := [d1, d2] }
  | _ => none }
def FnExactDropRowWrongFalsely : Prop := fnExactDropRowRow.holds Try.pinned (OpenSpec.ofChange fnExactDropRowWrong)

/-- 'laws.FnExactRowsOf': WHATEVER THE INPUT: true; the input reads as it did. -/
def fnExactRowsOfSpec : ChangeSpec := { name := "fnExactRowsOf", fn := fun _ => fun
  | [d] => { results := [.lit (.bool true)], args := [d] }
  | _ => none }
def fnExactRowsOfRow : OpenClaim := { program := "ytapahapjajijeaa", sum := "cf11aa219a7865e60a234e5bbb3e376d5d7918be04f765b0983df50c32bb75e3", func := "loop.example/g00270/laws.FnExactRowsOf", spec := "fnExactRowsOf", apart := false }
def FnExactRowsOfSaid : Prop := fnExactRowsOfRow.holds Try.pinned (OpenSpec.ofChange fnExactRowsOfSpec)

/-- ITS FALSE NEIGHBOUR: 'it returns false'. Refute it at one input. -/
def fnExactRowsOfWrong : ChangeSpec := { name := "fnExactRowsOf", fn := fun _ => fun
  | [d] => { results := [.lit (.bool false)], args := [d] }
  | _ => none }
def FnExactRowsOfWrongFalsely : Prop := fnExactRowsOfRow.holds Try.pinned (OpenSpec.ofChange fnExactRowsOfWrong)

/-- 'laws.FnExactScanRows': WHATEVER THE INPUT: true; the input reads as it did. -/
def fnExactScanRowsSpec : ChangeSpec := { name := "fnExactScanRows", fn := fun _ => fun
  | [d1, d2, d3] => { results := [.lit (.bool true)], args := [d1, d2, d3] }
  | _ => none }
def fnExactScanRowsRow : OpenClaim := { program := "ytapahapjajijeaa", sum := "cf11aa219a7865e60a234e5bbb3e376d5d7918be04f765b0983df50c32bb75e3", func := "loop.example/g00270/laws.FnExactScanRows", spec := "fnExactScanRows", apart := false }
def FnExactScanRowsSaid : Prop := fnExactScanRowsRow.holds Try.pinned (OpenSpec.ofChange fnExactScanRowsSpec)

/-- ITS FALSE NEIGHBOUR: 'it returns false'. Refute it at one input. -/
def fnExactScanRowsWrong : ChangeSpec := { name := "fnExactScanRows", fn := fun _ => fun
  | [d1, d2, d3] => { results := [.lit (.bool false)], args := [d1, d2, d3] }
  | _ => none }
def FnExactScanRowsWrongFalsely : Prop := fnExactScanRowsRow.holds Try.pinned (OpenSpec.ofChange fnExactScanRowsWrong)

/- THE SECOND FORM. 'bulk': how many values and letters a reading holds, each counted each time it is reached (what is shared counts as often as it is met; a slice's spare places count too). A statement '..UptoSaid' is the law's where the arguments, and the package variables that the reading takes, are together of bulk at most 1048576: NARROWER than '..Said'. Prove '..Said' where nothing that the law and all that it calls make is longer than what came in: it says more and counts as full. Else prove '..UptoSaid'. A law counts once. -/
mutual
def uptoBulk {H : Type} : DataW H → Nat
  | .lit (.string bytes) => bytes.length + 1
  | .lit _ => 1
  | .nil => 1
  | .ptr d => uptoBulk d + 1
  | .slice elems spare => uptoBulkAll elems + uptoBulkAll spare + 1
  | .agg parts => uptoBulkAll parts + 1
  | .iface _ d => uptoBulk d + 1
  | .map entries => uptoBulkEntries entries + 1
  | .held _ => 1
def uptoBulkAll {H : Type} : List (DataW H) → Nat
  | [] => 0
  | d :: r => uptoBulk d + uptoBulkAll r
def uptoBulkEntries {H : Type} : List (Lit × DataW H) → Nat
  | [] => 0
  | x :: r => uptoBulkEntry x + uptoBulkEntries r
def uptoBulkEntry {H : Type} : Lit × DataW H → Nat
  | (.string bytes, d) => bytes.length + uptoBulk d + 1
  | (_, d) => uptoBulk d + 1
 end
def uptoSmall : (H : Type) → List (DataW H) → Bool := fun _ ds => decide (uptoBulkAll ds ≤ 1048576)
def OpenSpec.upto (s : _root_.Go.ChangeSpec) : _root_.Go.OpenSpec := { _root_.Go.OpenSpec.ofChange s with cond := some uptoSmall }

/-- 'laws.FnRecs', WHERE WHAT IT READS IS OF BULK AT MOST 1048576: true; the input reads as it did. -/
def fnRecsUptoRow : OpenClaim := { program := "ytapahapjajijeaa", sum := "cf11aa219a7865e60a234e5bbb3e376d5d7918be04f765b0983df50c32bb75e3", func := "loop.example/g00270/laws.FnRecs", spec := "fnRecs", unfollowed := true, recurses := true, apart := false, narrowed := true }
def FnRecsUptoSaid : Prop := fnRecsUptoRow.holds Try.pinned (OpenSpec.upto fnRecsSpec)

/-- 'laws.FnLogs', WHERE WHAT IT READS IS OF BULK AT MOST 1048576: true; the input reads as it did. -/
def fnLogsUptoRow : OpenClaim := { program := "ytapahapjajijeaa", sum := "cf11aa219a7865e60a234e5bbb3e376d5d7918be04f765b0983df50c32bb75e3", func := "loop.example/g00270/laws.FnLogs", spec := "fnLogs", unfollowed := true, recurses := true, apart := false, narrowed := true }
def FnLogsUptoSaid : Prop := fnLogsUptoRow.holds Try.pinned (OpenSpec.upto fnLogsSpec)

/-- 'laws.FnLeaves', WHERE WHAT IT READS IS OF BULK AT MOST 1048576: true; the input reads as it did. -/
def fnLeavesUptoRow : OpenClaim := { program := "ytapahapjajijeaa", sum := "cf11aa219a7865e60a234e5bbb3e376d5d7918be04f765b0983df50c32bb75e3", func := "loop.example/g00270/laws.FnLeaves", spec := "fnLeaves", inPlace := ["slices.overlaps[loop.example/g00270/impl.Row]", "slices.overlaps[loop.example/g00270/impl.Leaf]"], apart := false, narrowed := true }
def FnLeavesUptoSaid : Prop := fnLeavesUptoRow.holds Try.pinned (OpenSpec.upto fnLeavesSpec)

/-- 'laws.FnExactAppendWal', WHERE WHAT IT READS IS OF BULK AT MOST 1048576: true; the input reads as it did. -/
def fnExactAppendWalUptoRow : OpenClaim := { program := "ytapahapjajijeaa", sum := "cf11aa219a7865e60a234e5bbb3e376d5d7918be04f765b0983df50c32bb75e3", func := "loop.example/g00270/laws.FnExactAppendWal", spec := "fnExactAppendWal", unfollowed := true, recurses := true, apart := false, narrowed := true }
def FnExactAppendWalUptoSaid : Prop := fnExactAppendWalUptoRow.holds Try.pinned (OpenSpec.upto fnExactAppendWalSpec)

/-- 'laws.FnExactCrashWal', WHERE WHAT IT READS IS OF BULK AT MOST 1048576: true; the input reads as it did. -/
def fnExactCrashWalUptoRow : OpenClaim := { program := "ytapahapjajijeaa", sum := "cf11aa219a7865e60a234e5bbb3e376d5d7918be04f765b0983df50c32bb75e3", func := "loop.example/g00270/laws.FnExactCrashWal", spec := "fnExactCrashWal", unfollowed := true, recurses := true, apart := false, narrowed := true }
def FnExactCrashWalUptoSaid : Prop := fnExactCrashWalUptoRow.holds Try.pinned (OpenSpec.upto fnExactCrashWalSpec)

/-- 'laws.FnExactLeavesFault', WHERE WHAT IT READS IS OF BULK AT MOST 1048576: true; the input reads as it did. -/
def fnExactLeavesFaultUptoRow : OpenClaim := { program := "ytapahapjajijeaa", sum := "cf11aa219a7865e60a234e5bbb3e376d5d7918be04f765b0983df50c32bb75e3", func := "loop.example/g00270/laws.FnExactLeavesFault", spec := "fnExactLeavesFault", apart := false, narrowed := true }
def FnExactLeavesFaultUptoSaid : Prop := fnExactLeavesFaultUptoRow.holds Try.pinned (OpenSpec.upto fnExactLeavesFaultSpec)

/-- 'laws.FnExactLeafFor', WHERE WHAT IT READS IS OF BULK AT MOST 1048576: true; the input reads as it did. -/
def fnExactLeafForUptoRow : OpenClaim := { program := "ytapahapjajijeaa", sum := "cf11aa219a7865e60a234e5bbb3e376d5d7918be04f765b0983df50c32bb75e3", func := "loop.example/g00270/laws.FnExactLeafFor", spec := "fnExactLeafFor", apart := false, narrowed := true }
def FnExactLeafForUptoSaid : Prop := fnExactLeafForUptoRow.holds Try.pinned (OpenSpec.upto fnExactLeafForSpec)

/-- 'laws.FnExactFindRow', WHERE WHAT IT READS IS OF BULK AT MOST 1048576: true; the input reads as it did. -/
def fnExactFindRowUptoRow : OpenClaim := { program := "ytapahapjajijeaa", sum := "cf11aa219a7865e60a234e5bbb3e376d5d7918be04f765b0983df50c32bb75e3", func := "loop.example/g00270/laws.FnExactFindRow", spec := "fnExactFindRow", apart := false, narrowed := true }
def FnExactFindRowUptoSaid : Prop := fnExactFindRowUptoRow.holds Try.pinned (OpenSpec.upto fnExactFindRowSpec)

/-- 'laws.FnExactPutRow', WHERE WHAT IT READS IS OF BULK AT MOST 1048576: true; the input reads as it did. -/
def fnExactPutRowUptoRow : OpenClaim := { program := "ytapahapjajijeaa", sum := "cf11aa219a7865e60a234e5bbb3e376d5d7918be04f765b0983df50c32bb75e3", func := "loop.example/g00270/laws.FnExactPutRow", spec := "fnExactPutRow", inPlace := ["slices.overlaps[loop.example/g00270/impl.Row]", "slices.overlaps[loop.example/g00270/impl.Leaf]"], apart := false, narrowed := true }
def FnExactPutRowUptoSaid : Prop := fnExactPutRowUptoRow.holds Try.pinned (OpenSpec.upto fnExactPutRowSpec)

/-- 'laws.FnExactDropRow', WHERE WHAT IT READS IS OF BULK AT MOST 1048576: true; the input reads as it did. -/
def fnExactDropRowUptoRow : OpenClaim := { program := "ytapahapjajijeaa", sum := "cf11aa219a7865e60a234e5bbb3e376d5d7918be04f765b0983df50c32bb75e3", func := "loop.example/g00270/laws.FnExactDropRow", spec := "fnExactDropRow", apart := false, narrowed := true }
def FnExactDropRowUptoSaid : Prop := fnExactDropRowUptoRow.holds Try.pinned (OpenSpec.upto fnExactDropRowSpec)

/-- 'laws.FnExactRowsOf', WHERE WHAT IT READS IS OF BULK AT MOST 1048576: true; the input reads as it did. -/
def fnExactRowsOfUptoRow : OpenClaim := { program := "ytapahapjajijeaa", sum := "cf11aa219a7865e60a234e5bbb3e376d5d7918be04f765b0983df50c32bb75e3", func := "loop.example/g00270/laws.FnExactRowsOf", spec := "fnExactRowsOf", apart := false, narrowed := true }
def FnExactRowsOfUptoSaid : Prop := fnExactRowsOfUptoRow.holds Try.pinned (OpenSpec.upto fnExactRowsOfSpec)

/-- 'laws.FnExactScanRows', WHERE WHAT IT READS IS OF BULK AT MOST 1048576: true; the input reads as it did. -/
def fnExactScanRowsUptoRow : OpenClaim := { program := "ytapahapjajijeaa", sum := "cf11aa219a7865e60a234e5bbb3e376d5d7918be04f765b0983df50c32bb75e3", func := "loop.example/g00270/laws.FnExactScanRows", spec := "fnExactScanRows", apart := false, narrowed := true }
def FnExactScanRowsUptoSaid : Prop := fnExactScanRowsUptoRow.holds Try.pinned (OpenSpec.upto fnExactScanRowsSpec)

end Rows
end Go.Proofs.Ytapahapjajijeaa
