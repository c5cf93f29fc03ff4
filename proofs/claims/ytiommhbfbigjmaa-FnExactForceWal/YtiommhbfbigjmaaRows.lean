/-
  No cell of these rows narrows 'for every input' (looked for: loops, veiled, ifaces, maps, wideKeys, modest, calm, conditions, laid).
  DERIVED. THE GIVEN ROWS OF THIS SEAT. 9 by the template 'for every input the law returns true; each argument reads behind the call as it read before'; 0 by the template 'total and deterministic' (their statements: YtiommhbfbigjmaaTotals.lean).
  GIVEN WITH THE SEED: the statements are not yours to turn. If you find one false, say at which input.
  Laid BY PROGRAM, IN A SANDBOX (cutbox-rows.mjs): the forced cells as the released guide's own fill.sh prints them over the translation 92306007b7d3842e… (all of the seat's roots in one cut). By AI agents, Wed Nov 11 2026. No macro, syntax, notation, axiom, sorry.
-/
import Derived.Test.YtiommhbfbigjmaaChecked
import GoSem.Claim
import GoSem.ClaimJoined
import GoSem.ClaimMapViews
import Derived.JoinedTies
import Derived.KernelRfl
namespace Go.Proofs.Ytiommhbfbigjmaa
/- THE CELL 'sum', in the pinned program and in every row, IS THE sha256 OF THE DUMP (.gsa) THAT YtiommhbfbigjmaaProg.lean LOADS. Nothing in Lean hashes anything: it is a label: what it is worth is what the hold of that sum in a sandbox is worth. -/
noncomputable def Try.pinned : Pinned := { name := "ytiommhbfbigjmaa", sum := "92306007b7d3842ecfec1b73496c431cf07a4aee0aa9c93a19d4457e3436c689", checked := Try.checked }
namespace Rows
def none {H : Type} : Left H := { results := [], args := [] }

/-- 'laws.FnRecs': WHATEVER THE INPUT: true; the input reads as it did. -/
def fnRecsSpec : ChangeSpec := { name := "fnRecs", fn := fun _ => fun
  | [d] => { results := [.lit (.bool true)], args := [d] }
  | _ => none }
def fnRecsRow : OpenClaim := { program := "ytiommhbfbigjmaa", sum := "92306007b7d3842ecfec1b73496c431cf07a4aee0aa9c93a19d4457e3436c689", func := "loop.example/g00270/laws.FnRecs", spec := "fnRecs", unfollowed := true, recurses := true, apart := false }
def FnRecsSaid : Prop := fnRecsRow.holds Try.pinned (OpenSpec.ofChange fnRecsSpec)

/-- ITS FALSE NEIGHBOUR: 'it returns false'. Refute it at one input. -/
def fnRecsWrong : ChangeSpec := { name := "fnRecs", fn := fun _ => fun
  | [d] => { results := [.lit (.bool false)], args := [d] }
  | _ => none }
def FnRecsWrongFalsely : Prop := fnRecsRow.holds Try.pinned (OpenSpec.ofChange fnRecsWrong)

/-- 'laws.FnLogs': WHATEVER THE INPUT: true; the input reads as it did. -/
def fnLogsSpec : ChangeSpec := { name := "fnLogs", fn := fun _ => fun
  | [d] => { results := [.lit (.bool true)], args := [d] }
  | _ => none }
def fnLogsRow : OpenClaim := { program := "ytiommhbfbigjmaa", sum := "92306007b7d3842ecfec1b73496c431cf07a4aee0aa9c93a19d4457e3436c689", func := "loop.example/g00270/laws.FnLogs", spec := "fnLogs", unfollowed := true, recurses := true, apart := false }
def FnLogsSaid : Prop := fnLogsRow.holds Try.pinned (OpenSpec.ofChange fnLogsSpec)

/-- ITS FALSE NEIGHBOUR: 'it returns false'. Refute it at one input. -/
def fnLogsWrong : ChangeSpec := { name := "fnLogs", fn := fun _ => fun
  | [d] => { results := [.lit (.bool false)], args := [d] }
  | _ => none }
def FnLogsWrongFalsely : Prop := fnLogsRow.holds Try.pinned (OpenSpec.ofChange fnLogsWrong)

/-- 'laws.FnExactRecFault': WHATEVER THE INPUT: true; the input reads as it did. -/
def fnExactRecFaultSpec : ChangeSpec := { name := "fnExactRecFault", fn := fun _ => fun
  | [d] => { results := [.lit (.bool true)], args := [d] }
  | _ => none }
def fnExactRecFaultRow : OpenClaim := { program := "ytiommhbfbigjmaa", sum := "92306007b7d3842ecfec1b73496c431cf07a4aee0aa9c93a19d4457e3436c689", func := "loop.example/g00270/laws.FnExactRecFault", spec := "fnExactRecFault", apart := false }
def FnExactRecFaultSaid : Prop := fnExactRecFaultRow.holds Try.pinned (OpenSpec.ofChange fnExactRecFaultSpec)

/-- ITS FALSE NEIGHBOUR: 'it returns false'. Refute it at one input. -/
def fnExactRecFaultWrong : ChangeSpec := { name := "fnExactRecFault", fn := fun _ => fun
  | [d] => { results := [.lit (.bool false)], args := [d] }
  | _ => none }
def FnExactRecFaultWrongFalsely : Prop := fnExactRecFaultRow.holds Try.pinned (OpenSpec.ofChange fnExactRecFaultWrong)

/-- 'laws.FnExactPackRec': WHATEVER THE INPUT: true; the input reads as it did. -/
def fnExactPackRecSpec : ChangeSpec := { name := "fnExactPackRec", fn := fun _ => fun
  | [d] => { results := [.lit (.bool true)], args := [d] }
  | _ => none }
def fnExactPackRecRow : OpenClaim := { program := "ytiommhbfbigjmaa", sum := "92306007b7d3842ecfec1b73496c431cf07a4aee0aa9c93a19d4457e3436c689", func := "loop.example/g00270/laws.FnExactPackRec", spec := "fnExactPackRec", apart := false }
def FnExactPackRecSaid : Prop := fnExactPackRecRow.holds Try.pinned (OpenSpec.ofChange fnExactPackRecSpec)

/-- ITS FALSE NEIGHBOUR: 'it returns false'. Refute it at one input. -/
def fnExactPackRecWrong : ChangeSpec := { name := "fnExactPackRec", fn := fun _ => fun
  | [d] => { results := [.lit (.bool false)], args := [d] }
  | _ => none }
def FnExactPackRecWrongFalsely : Prop := fnExactPackRecRow.holds Try.pinned (OpenSpec.ofChange fnExactPackRecWrong)

/-- 'laws.FnExactReadRecs': WHATEVER THE INPUT: true; the input reads as it did. -/
def fnExactReadRecsSpec : ChangeSpec := { name := "fnExactReadRecs", fn := fun _ => fun
  | [d] => { results := [.lit (.bool true)], args := [d] }
  | _ => none }
def fnExactReadRecsRow : OpenClaim := { program := "ytiommhbfbigjmaa", sum := "92306007b7d3842ecfec1b73496c431cf07a4aee0aa9c93a19d4457e3436c689", func := "loop.example/g00270/laws.FnExactReadRecs", spec := "fnExactReadRecs", unfollowed := true, recurses := true, apart := false }
def FnExactReadRecsSaid : Prop := fnExactReadRecsRow.holds Try.pinned (OpenSpec.ofChange fnExactReadRecsSpec)

/-- ITS FALSE NEIGHBOUR: 'it returns false'. Refute it at one input. -/
def fnExactReadRecsWrong : ChangeSpec := { name := "fnExactReadRecs", fn := fun _ => fun
  | [d] => { results := [.lit (.bool false)], args := [d] }
  | _ => none }
def FnExactReadRecsWrongFalsely : Prop := fnExactReadRecsRow.holds Try.pinned (OpenSpec.ofChange fnExactReadRecsWrong)

/-- 'laws.FnExactWalFault': WHATEVER THE INPUT: true; the input reads as it did. -/
def fnExactWalFaultSpec : ChangeSpec := { name := "fnExactWalFault", fn := fun _ => fun
  | [d] => { results := [.lit (.bool true)], args := [d] }
  | _ => none }
def fnExactWalFaultRow : OpenClaim := { program := "ytiommhbfbigjmaa", sum := "92306007b7d3842ecfec1b73496c431cf07a4aee0aa9c93a19d4457e3436c689", func := "loop.example/g00270/laws.FnExactWalFault", spec := "fnExactWalFault", unfollowed := true, recurses := true, apart := false }
def FnExactWalFaultSaid : Prop := fnExactWalFaultRow.holds Try.pinned (OpenSpec.ofChange fnExactWalFaultSpec)

/-- ITS FALSE NEIGHBOUR: 'it returns false'. Refute it at one input. -/
def fnExactWalFaultWrong : ChangeSpec := { name := "fnExactWalFault", fn := fun _ => fun
  | [d] => { results := [.lit (.bool false)], args := [d] }
  | _ => none }
def FnExactWalFaultWrongFalsely : Prop := fnExactWalFaultRow.holds Try.pinned (OpenSpec.ofChange fnExactWalFaultWrong)

/-- 'laws.FnExactAppendWal': WHATEVER THE INPUT: true; the input reads as it did. -/
def fnExactAppendWalSpec : ChangeSpec := { name := "fnExactAppendWal", fn := fun _ => fun
  | [d1, d2] => { results := [.lit (.bool true)], args := [d1, d2] }
  | _ => none }
def fnExactAppendWalRow : OpenClaim := { program := "ytiommhbfbigjmaa", sum := "92306007b7d3842ecfec1b73496c431cf07a4aee0aa9c93a19d4457e3436c689", func := "loop.example/g00270/laws.FnExactAppendWal", spec := "fnExactAppendWal", unfollowed := true, recurses := true, apart := false }
def FnExactAppendWalSaid : Prop := fnExactAppendWalRow.holds Try.pinned (OpenSpec.ofChange fnExactAppendWalSpec)

/-- ITS FALSE NEIGHBOUR: 'it returns false'. Refute it at one input. -/
def fnExactAppendWalWrong : ChangeSpec := { name := "fnExactAppendWal", fn := fun _ => fun
  | [d1, d2] => { results := [.lit (.bool false)], args := [d1, d2] }
  | _ => none }
def FnExactAppendWalWrongFalsely : Prop := fnExactAppendWalRow.holds Try.pinned (OpenSpec.ofChange fnExactAppendWalWrong)

/-- 'laws.FnExactForceWal': WHATEVER THE INPUT: true; the input reads as it did. -/
def fnExactForceWalSpec : ChangeSpec := { name := "fnExactForceWal", fn := fun _ => fun
  | [d] => { results := [.lit (.bool true)], args := [d] }
  | _ => none }
def fnExactForceWalRow : OpenClaim := { program := "ytiommhbfbigjmaa", sum := "92306007b7d3842ecfec1b73496c431cf07a4aee0aa9c93a19d4457e3436c689", func := "loop.example/g00270/laws.FnExactForceWal", spec := "fnExactForceWal", unfollowed := true, recurses := true, apart := false }
def FnExactForceWalSaid : Prop := fnExactForceWalRow.holds Try.pinned (OpenSpec.ofChange fnExactForceWalSpec)

/-- ITS FALSE NEIGHBOUR: 'it returns false'. Refute it at one input. -/
def fnExactForceWalWrong : ChangeSpec := { name := "fnExactForceWal", fn := fun _ => fun
  | [d] => { results := [.lit (.bool false)], args := [d] }
  | _ => none }
def FnExactForceWalWrongFalsely : Prop := fnExactForceWalRow.holds Try.pinned (OpenSpec.ofChange fnExactForceWalWrong)

/-- 'laws.FnExactCrashWal': WHATEVER THE INPUT: true; the input reads as it did. -/
def fnExactCrashWalSpec : ChangeSpec := { name := "fnExactCrashWal", fn := fun _ => fun
  | [d1, d2] => { results := [.lit (.bool true)], args := [d1, d2] }
  | _ => none }
def fnExactCrashWalRow : OpenClaim := { program := "ytiommhbfbigjmaa", sum := "92306007b7d3842ecfec1b73496c431cf07a4aee0aa9c93a19d4457e3436c689", func := "loop.example/g00270/laws.FnExactCrashWal", spec := "fnExactCrashWal", unfollowed := true, recurses := true, apart := false }
def FnExactCrashWalSaid : Prop := fnExactCrashWalRow.holds Try.pinned (OpenSpec.ofChange fnExactCrashWalSpec)

/-- ITS FALSE NEIGHBOUR: 'it returns false'. Refute it at one input. -/
def fnExactCrashWalWrong : ChangeSpec := { name := "fnExactCrashWal", fn := fun _ => fun
  | [d1, d2] => { results := [.lit (.bool false)], args := [d1, d2] }
  | _ => none }
def FnExactCrashWalWrongFalsely : Prop := fnExactCrashWalRow.holds Try.pinned (OpenSpec.ofChange fnExactCrashWalWrong)

/- THE SECOND FORM. 'bulk': how many values and letters a reading holds, each counted each time it is reached (what is shared counts as often as it is met; a slice's spare places count too). A statement '..UptoSaid' is the law's where the arguments, and the package variables that the reading takes, are together of bulk at most 1048576: NARROWER than '..Said'. Prove '..Said' where nothing that the law and all that it calls make is longer than what came in: it says more and counts as full. Else prove '..UptoSaid'. A law counts once. -/
mutual
def uptoBulk {H : Type} : DataW H → Nat
  | .lit (.string bytes) => bytes.length + 1
  | .lit _ => 1
  | .nil => 1
  | .ptr d => uptoBulk d + 1
  | .slice elems spare => uptoBulkAll elems + uptoBulkAll spare + 1
  | .agg parts => uptoBulkAll parts + 1
  | .iface _ d => uptoBulk d + 1
  | .map entries => uptoBulkEntries entries + 1
  | .held _ => 1
def uptoBulkAll {H : Type} : List (DataW H) → Nat
  | [] => 0
  | d :: r => uptoBulk d + uptoBulkAll r
def uptoBulkEntries {H : Type} : List (Lit × DataW H) → Nat
  | [] => 0
  | x :: r => uptoBulkEntry x + uptoBulkEntries r
def uptoBulkEntry {H : Type} : Lit × DataW H → Nat
  | (.string bytes, d) => bytes.length + uptoBulk d + 1
  | (_, d) => uptoBulk d + 1
 end
def uptoSmall : (H : Type) → List (DataW H) → Bool := fun _ ds => decide (uptoBulkAll ds ≤ 1048576)
def OpenSpec.upto (s : _root_.Go.ChangeSpec) : _root_.Go.OpenSpec := { _root_.Go.OpenSpec.ofChange s with cond := some uptoSmall }

/-- 'laws.FnRecs', WHERE WHAT IT READS IS OF BULK AT MOST 1048576: true; the input reads as it did. -/
def fnRecsUptoRow : OpenClaim := { program := "ytiommhbfbigjmaa", sum := "92306007b7d3842ecfec1b73496c431cf07a4aee0aa9c93a19d4457e3436c689", func := "loop.example/g00270/laws.FnRecs", spec := "fnRecs", unfollowed := true, recurses := true, apart := false, narrowed := true }
def FnRecsUptoSaid : Prop := fnRecsUptoRow.holds Try.pinned (OpenSpec.upto fnRecsSpec)

/-- 'laws.FnLogs', WHERE WHAT IT READS IS OF BULK AT MOST 1048576: true; the input reads as it did. -/
def fnLogsUptoRow : OpenClaim := { program := "ytiommhbfbigjmaa", sum := "92306007b7d3842ecfec1b73496c431cf07a4aee0aa9c93a19d4457e3436c689", func := "loop.example/g00270/laws.FnLogs", spec := "fnLogs", unfollowed := true, recurses := true, apart := false, narrowed := true }
def FnLogsUptoSaid : Prop := fnLogsUptoRow.holds Try.pinned (OpenSpec.upto fnLogsSpec)

/-- 'laws.FnExactRecFault', WHERE WHAT IT READS IS OF BULK AT MOST 1048576: true; the input reads as it did. -/
def fnExactRecFaultUptoRow : OpenClaim := { program := "ytiommhbfbigjmaa", sum := "92306007b7d3842ecfec1b73496c431cf07a4aee0aa9c93a19d4457e3436c689", func := "loop.example/g00270/laws.FnExactRecFault", spec := "fnExactRecFault", apart := false, narrowed := true }
def FnExactRecFaultUptoSaid : Prop := fnExactRecFaultUptoRow.holds Try.pinned (OpenSpec.upto fnExactRecFaultSpec)

/-- 'laws.FnExactPackRec', WHERE WHAT IT READS IS OF BULK AT MOST 1048576: true; the input reads as it did. -/
def fnExactPackRecUptoRow : OpenClaim := { program := "ytiommhbfbigjmaa", sum := "92306007b7d3842ecfec1b73496c431cf07a4aee0aa9c93a19d4457e3436c689", func := "loop.example/g00270/laws.FnExactPackRec", spec := "fnExactPackRec", apart := false, narrowed := true }
def FnExactPackRecUptoSaid : Prop := fnExactPackRecUptoRow.holds Try.pinned (OpenSpec.upto fnExactPackRecSpec)

/-- 'laws.FnExactReadRecs', WHERE WHAT IT READS IS OF BULK AT MOST 1048576: true; the input reads as it did. -/
def fnExactReadRecsUptoRow : OpenClaim := { program := "ytiommhbfbigjmaa", sum := "92306007b7d3842ecfec1b73496c431cf07a4aee0aa9c93a19d4457e3436c689", func := "loop.example/g00270/laws.FnExactReadRecs", spec := "fnExactReadRecs", unfollowed := true, recurses := true, apart := false, narrowed := true }
def FnExactReadRecsUptoSaid : Prop := fnExactReadRecsUptoRow.holds Try.pinned (OpenSpec.upto fnExactReadRecsSpec)

/-- 'laws.FnExactWalFault', WHERE WHAT IT READS IS OF BULK AT MOST 1048576: true; the input reads as it did. -/
def fnExactWalFaultUptoRow : OpenClaim := { program := "ytiommhbfbigjmaa", sum := "92306007b7d3842ecfec1b73496c431cf07a4aee0aa9c93a19d4457e3436c689", func := "loop.example/g00270/laws.FnExactWalFault", spec := "fnExactWalFault", unfollowed := true, recurses := true, apart := false, narrowed := true }
def FnExactWalFaultUptoSaid : Prop := fnExactWalFaultUptoRow.holds Try.pinned (OpenSpec.upto fnExactWalFaultSpec)

/-- 'laws.FnExactAppendWal', WHERE WHAT IT READS IS OF BULK AT MOST 1048576: true; the input reads as it did. -/
def fnExactAppendWalUptoRow : OpenClaim := { program := "ytiommhbfbigjmaa", sum := "92306007b7d3842ecfec1b73496c431cf07a4aee0aa9c93a19d4457e3436c689", func := "loop.example/g00270/laws.FnExactAppendWal", spec := "fnExactAppendWal", unfollowed := true, recurses := true, apart := false, narrowed := true }
def FnExactAppendWalUptoSaid : Prop := fnExactAppendWalUptoRow.holds Try.pinned (OpenSpec.upto fnExactAppendWalSpec)

/-- 'laws.FnExactForceWal', WHERE WHAT IT READS IS OF BULK AT MOST 1048576: true; the input reads as it did. -/
def fnExactForceWalUptoRow : OpenClaim := { program := "ytiommhbfbigjmaa", sum := "92306007b7d3842ecfec1b73496c431cf07a4aee0aa9c93a19d4457e3436c689", func := "loop.example/g00270/laws.FnExactForceWal", spec := "fnExactForceWal", unfollowed := true, recurses := true, apart := false, narrowed := true }
def FnExactForceWalUptoSaid : Prop := fnExactForceWalUptoRow.holds Try.pinned (OpenSpec.upto fnExactForceWalSpec)

/-- 'laws.FnExactCrashWal', WHERE WHAT IT READS IS OF BULK AT MOST 1048576: true; the input reads as it did. -/
def fnExactCrashWalUptoRow : OpenClaim := { program := "ytiommhbfbigjmaa", sum := "92306007b7d3842ecfec1b73496c431cf07a4aee0aa9c93a19d4457e3436c689", func := "loop.example/g00270/laws.FnExactCrashWal", spec := "fnExactCrashWal", unfollowed := true, recurses := true, apart := false, narrowed := true }
def FnExactCrashWalUptoSaid : Prop := fnExactCrashWalUptoRow.holds Try.pinned (OpenSpec.upto fnExactCrashWalSpec)

end Rows
end Go.Proofs.Ytiommhbfbigjmaa
