/-
  No cell of these rows narrows 'for every input' (looked for: loops, veiled, ifaces, maps, wideKeys, modest, calm, conditions, laid).
  DERIVED. THE GIVEN ROWS OF THIS SEAT. 4 by the template 'for every input the law returns true; each argument reads behind the call as it read before'; 0 by the template 'total and deterministic' (their statements: YtlpncikiaojmiaaTotals.lean).
  GIVEN WITH THE SEED: the statements are not yours to turn. If you find one false, say at which input.
  Laid BY PROGRAM, IN A SANDBOX (cutbox-rows.mjs): the forced cells as the released guide's own fill.sh prints them over the translation 763da8789f99d90a… (all of the seat's roots in one cut). By AI agents, Wed Nov 11 2026. No macro, syntax, notation, axiom, sorry.
-/
import Derived.Test.YtlpncikiaojmiaaChecked
import GoSem.Claim
import GoSem.ClaimJoined
import GoSem.ClaimMapViews
import Derived.JoinedTies
import Derived.KernelRfl
namespace Go.Proofs.Ytlpncikiaojmiaa
/- THE CELL 'sum', in the pinned program and in every row, IS THE sha256 OF THE DUMP (.gsa) THAT YtlpncikiaojmiaaProg.lean LOADS. Nothing in Lean hashes anything: it is a label: what it is worth is what the hold of that sum in a sandbox is worth. -/
noncomputable def Try.pinned : Pinned := { name := "ytlpncikiaojmiaa", sum := "763da8789f99d90a0b618edb53d8041877be1fbb7da4a9edf0ff87ccb2842a57", checked := Try.checked }
namespace Rows
def none {H : Type} : Left H := { results := [], args := [] }

/-- 'laws.FnExactReplayActs': WHATEVER THE INPUT: true; the input reads as it did. -/
def fnExactReplayActsSpec : ChangeSpec := { name := "fnExactReplayActs", fn := fun _ => fun
  | [d1, d2, d3] => { results := [.lit (.bool true)], args := [d1, d2, d3] }
  | _ => none }
def fnExactReplayActsRow : OpenClaim := { program := "ytlpncikiaojmiaa", sum := "763da8789f99d90a0b618edb53d8041877be1fbb7da4a9edf0ff87ccb2842a57", func := "loop.example/g00270/laws.FnExactReplayActs", spec := "fnExactReplayActs", unfollowed := true, recurses := true, apart := false }
def FnExactReplayActsSaid : Prop := fnExactReplayActsRow.holds Try.pinned (OpenSpec.ofChange fnExactReplayActsSpec)

/-- ITS FALSE NEIGHBOUR: 'it returns false'. Refute it at one input. -/
def fnExactReplayActsWrong : ChangeSpec := { name := "fnExactReplayActs", fn := fun _ => fun
  | [d1, d2, d3] => { results := [.lit (.bool false)], args := [d1, d2, d3] }
  | _ => none }
def FnExactReplayActsWrongFalsely : Prop := fnExactReplayActsRow.holds Try.pinned (OpenSpec.ofChange fnExactReplayActsWrong)

/-- 'laws.FnExactStrictActs': WHATEVER THE INPUT: true; the input reads as it did. -/
def fnExactStrictActsSpec : ChangeSpec := { name := "fnExactStrictActs", fn := fun _ => fun
  | [d] => { results := [.lit (.bool true)], args := [d] }
  | _ => none }
def fnExactStrictActsRow : OpenClaim := { program := "ytlpncikiaojmiaa", sum := "763da8789f99d90a0b618edb53d8041877be1fbb7da4a9edf0ff87ccb2842a57", func := "loop.example/g00270/laws.FnExactStrictActs", spec := "fnExactStrictActs", unfollowed := true, recurses := true, apart := false }
def FnExactStrictActsSaid : Prop := fnExactStrictActsRow.holds Try.pinned (OpenSpec.ofChange fnExactStrictActsSpec)

/-- ITS FALSE NEIGHBOUR: 'it returns false'. Refute it at one input. -/
def fnExactStrictActsWrong : ChangeSpec := { name := "fnExactStrictActs", fn := fun _ => fun
  | [d] => { results := [.lit (.bool false)], args := [d] }
  | _ => none }
def FnExactStrictActsWrongFalsely : Prop := fnExactStrictActsRow.holds Try.pinned (OpenSpec.ofChange fnExactStrictActsWrong)

/-- 'laws.FnExactTouchesOf': WHATEVER THE INPUT: true; the input reads as it did. -/
def fnExactTouchesOfSpec : ChangeSpec := { name := "fnExactTouchesOf", fn := fun _ => fun
  | [d1, d2] => { results := [.lit (.bool true)], args := [d1, d2] }
  | _ => none }
def fnExactTouchesOfRow : OpenClaim := { program := "ytlpncikiaojmiaa", sum := "763da8789f99d90a0b618edb53d8041877be1fbb7da4a9edf0ff87ccb2842a57", func := "loop.example/g00270/laws.FnExactTouchesOf", spec := "fnExactTouchesOf", apart := false }
def FnExactTouchesOfSaid : Prop := fnExactTouchesOfRow.holds Try.pinned (OpenSpec.ofChange fnExactTouchesOfSpec)

/-- ITS FALSE NEIGHBOUR: 'it returns false'. Refute it at one input. -/
def fnExactTouchesOfWrong : ChangeSpec := { name := "fnExactTouchesOf", fn := fun _ => fun
  | [d1, d2] => { results := [.lit (.bool false)], args := [d1, d2] }
  | _ => none }
def FnExactTouchesOfWrongFalsely : Prop := fnExactTouchesOfRow.holds Try.pinned (OpenSpec.ofChange fnExactTouchesOfWrong)

/-- 'laws.FnExactWritesOf': WHATEVER THE INPUT: true; the input reads as it did. -/
def fnExactWritesOfSpec : ChangeSpec := { name := "fnExactWritesOf", fn := fun _ => fun
  | [d1, d2] => { results := [.lit (.bool true)], args := [d1, d2] }
  | _ => none }
def fnExactWritesOfRow : OpenClaim := { program := "ytlpncikiaojmiaa", sum := "763da8789f99d90a0b618edb53d8041877be1fbb7da4a9edf0ff87ccb2842a57", func := "loop.example/g00270/laws.FnExactWritesOf", spec := "fnExactWritesOf", unfollowed := true, recurses := true, apart := false }
def FnExactWritesOfSaid : Prop := fnExactWritesOfRow.holds Try.pinned (OpenSpec.ofChange fnExactWritesOfSpec)

/-- ITS FALSE NEIGHBOUR: 'it returns false'. Refute it at one input. -/
def fnExactWritesOfWrong : ChangeSpec := { name := "fnExactWritesOf", fn := fun _ => fun
  | [d1, d2] => { results := [.lit (.bool false)], args := [d1, d2] }
  | _ => none }
def FnExactWritesOfWrongFalsely : Prop := fnExactWritesOfRow.holds Try.pinned (OpenSpec.ofChange fnExactWritesOfWrong)

/- THE SECOND FORM. 'bulk': how many values and letters a reading holds, each counted each time it is reached (what is shared counts as often as it is met; a slice's spare places count too). A statement '..UptoSaid' is the law's where the arguments, and the package variables that the reading takes, are together of bulk at most 1048576: NARROWER than '..Said'. Prove '..Said' where nothing that the law and all that it calls make is longer than what came in: it says more and counts as full. Else prove '..UptoSaid'. A law counts once. -/
mutual
def uptoBulk {H : Type} : DataW H → Nat
  | .lit (.string bytes) => bytes.length + 1
  | .lit _ => 1
  | .nil => 1
  | .ptr d => uptoBulk d + 1
  | .slice elems spare => uptoBulkAll elems + uptoBulkAll spare + 1
  | .agg parts => uptoBulkAll parts + 1
  | .iface _ d => uptoBulk d + 1
  | .map entries => uptoBulkEntries entries + 1
  | .held _ => 1
def uptoBulkAll {H : Type} : List (DataW H) → Nat
  | [] => 0
  | d :: r => uptoBulk d + uptoBulkAll r
def uptoBulkEntries {H : Type} : List (Lit × DataW H) → Nat
  | [] => 0
  | x :: r => uptoBulkEntry x + uptoBulkEntries r
def uptoBulkEntry {H : Type} : Lit × DataW H → Nat
  | (.string bytes, d) => bytes.length + uptoBulk d + 1
  | (_, d) => uptoBulk d + 1
 end
def uptoSmall : (H : Type) → List (DataW H) → Bool := fun _ ds => decide (uptoBulkAll ds ≤ 1048576)
def OpenSpec.upto (s : _root_.Go.ChangeSpec) : _root_.Go.OpenSpec := { _root_.Go.OpenSpec.ofChange s with cond := some uptoSmall }

/-- 'laws.FnExactReplayActs', WHERE WHAT IT READS IS OF BULK AT MOST 1048576: true; the input reads as it did. -/
def fnExactReplayActsUptoRow : OpenClaim := { program := "ytlpncikiaojmiaa", sum := "763da8789f99d90a0b618edb53d8041877be1fbb7da4a9edf0ff87ccb2842a57", func := "loop.example/g00270/laws.FnExactReplayActs", spec := "fnExactReplayActs", unfollowed := true, recurses := true, apart := false, narrowed := true }
def FnExactReplayActsUptoSaid : Prop := fnExactReplayActsUptoRow.holds Try.pinned (OpenSpec.upto fnExactReplayActsSpec)

/-- 'laws.FnExactStrictActs', WHERE WHAT IT READS IS OF BULK AT MOST 1048576: true; the input reads as it did. -/
def fnExactStrictActsUptoRow : OpenClaim := { program := "ytlpncikiaojmiaa", sum := "763da8789f99d90a0b618edb53d8041877be1fbb7da4a9edf0ff87ccb2842a57", func := "loop.example/g00270/laws.FnExactStrictActs", spec := "fnExactStrictActs", unfollowed := true, recurses := true, apart := false, narrowed := true }
def FnExactStrictActsUptoSaid : Prop := fnExactStrictActsUptoRow.holds Try.pinned (OpenSpec.upto fnExactStrictActsSpec)

/-- 'laws.FnExactTouchesOf', WHERE WHAT IT READS IS OF BULK AT MOST 1048576: true; the input reads as it did. -/
def fnExactTouchesOfUptoRow : OpenClaim := { program := "ytlpncikiaojmiaa", sum := "763da8789f99d90a0b618edb53d8041877be1fbb7da4a9edf0ff87ccb2842a57", func := "loop.example/g00270/laws.FnExactTouchesOf", spec := "fnExactTouchesOf", apart := false, narrowed := true }
def FnExactTouchesOfUptoSaid : Prop := fnExactTouchesOfUptoRow.holds Try.pinned (OpenSpec.upto fnExactTouchesOfSpec)

/-- 'laws.FnExactWritesOf', WHERE WHAT IT READS IS OF BULK AT MOST 1048576: true; the input reads as it did. -/
def fnExactWritesOfUptoRow : OpenClaim := { program := "ytlpncikiaojmiaa", sum := "763da8789f99d90a0b618edb53d8041877be1fbb7da4a9edf0ff87ccb2842a57", func := "loop.example/g00270/laws.FnExactWritesOf", spec := "fnExactWritesOf", unfollowed := true, recurses := true, apart := false, narrowed := true }
def FnExactWritesOfUptoSaid : Prop := fnExactWritesOfUptoRow.holds Try.pinned (OpenSpec.upto fnExactWritesOfSpec)

end Rows
end Go.Proofs.Ytlpncikiaojmiaa
