/-
  No cell of these rows narrows 'for every input' (looked for: loops, veiled, ifaces, maps, wideKeys, modest, calm, conditions, laid).
  DERIVED. THE GIVEN ROWS OF THIS SEAT. 6 by the template 'for every input the law returns true; each argument reads behind the call as it read before'; 0 by the template 'total and deterministic' (their statements: YthkbaabfhbjbgaaTotals.lean).
  GIVEN WITH THE SEED: the statements are not yours to turn. If you find one false, say at which input.
  Laid BY PROGRAM, IN A SANDBOX (cutbox-rows.mjs): the forced cells as the released guide's own fill.sh prints them over the translation 727874b157b30a06… (all of the seat's roots in one cut). By AI agents, Wed Nov 11 2026. No macro, syntax, notation, axiom, sorry.
-/
import Derived.Test.YthkbaabfhbjbgaaChecked
import GoSem.Claim
import GoSem.ClaimJoined
import GoSem.ClaimMapViews
import Derived.JoinedTies
import Derived.KernelRfl
namespace Go.Proofs.Ythkbaabfhbjbgaa
/- THE CELL 'sum', in the pinned program and in every row, IS THE sha256 OF THE DUMP (.gsa) THAT YthkbaabfhbjbgaaProg.lean LOADS. Nothing in Lean hashes anything: it is a label: what it is worth is what the hold of that sum in a sandbox is worth. -/
noncomputable def Try.pinned : Pinned := { name := "ythkbaabfhbjbgaa", sum := "727874b157b30a06f84cc8a72ecf9151e63cf30ec9f628a72d88ea73e805b0d8", checked := Try.checked }
namespace Rows
def none {H : Type} : Left H := { results := [], args := [] }

/-- 'laws.FnPages': WHATEVER THE INPUT: true; the input reads as it did. -/
def fnPagesSpec : ChangeSpec := { name := "fnPages", fn := fun _ => fun
  | [d] => { results := [.lit (.bool true)], args := [d] }
  | _ => none }
def fnPagesRow : OpenClaim := { program := "ythkbaabfhbjbgaa", sum := "727874b157b30a06f84cc8a72ecf9151e63cf30ec9f628a72d88ea73e805b0d8", func := "loop.example/g00270/laws.FnPages", spec := "fnPages", unfollowed := true, recurses := true, apart := false }
def FnPagesSaid : Prop := fnPagesRow.holds Try.pinned (OpenSpec.ofChange fnPagesSpec)

/-- ITS FALSE NEIGHBOUR: 'it returns false'. Refute it at one input. -/
def fnPagesWrong : ChangeSpec := { name := "fnPages", fn := fun _ => fun
  | [d] => { results := [.lit (.bool false)], args := [d] }
  | _ => none }
def FnPagesWrongFalsely : Prop := fnPagesRow.holds Try.pinned (OpenSpec.ofChange fnPagesWrong)

/-- 'laws.FnExactRowFault': WHATEVER THE INPUT: true; the input reads as it did. -/
def fnExactRowFaultSpec : ChangeSpec := { name := "fnExactRowFault", fn := fun _ => fun
  | [d] => { results := [.lit (.bool true)], args := [d] }
  | _ => none }
def fnExactRowFaultRow : OpenClaim := { program := "ythkbaabfhbjbgaa", sum := "727874b157b30a06f84cc8a72ecf9151e63cf30ec9f628a72d88ea73e805b0d8", func := "loop.example/g00270/laws.FnExactRowFault", spec := "fnExactRowFault", apart := false }
def FnExactRowFaultSaid : Prop := fnExactRowFaultRow.holds Try.pinned (OpenSpec.ofChange fnExactRowFaultSpec)

/-- ITS FALSE NEIGHBOUR: 'it returns false'. Refute it at one input. -/
def fnExactRowFaultWrong : ChangeSpec := { name := "fnExactRowFault", fn := fun _ => fun
  | [d] => { results := [.lit (.bool false)], args := [d] }
  | _ => none }
def FnExactRowFaultWrongFalsely : Prop := fnExactRowFaultRow.holds Try.pinned (OpenSpec.ofChange fnExactRowFaultWrong)

/-- 'laws.FnExactPageFault': WHATEVER THE INPUT: true; the input reads as it did. -/
def fnExactPageFaultSpec : ChangeSpec := { name := "fnExactPageFault", fn := fun _ => fun
  | [d] => { results := [.lit (.bool true)], args := [d] }
  | _ => none }
def fnExactPageFaultRow : OpenClaim := { program := "ythkbaabfhbjbgaa", sum := "727874b157b30a06f84cc8a72ecf9151e63cf30ec9f628a72d88ea73e805b0d8", func := "loop.example/g00270/laws.FnExactPageFault", spec := "fnExactPageFault", apart := false }
def FnExactPageFaultSaid : Prop := fnExactPageFaultRow.holds Try.pinned (OpenSpec.ofChange fnExactPageFaultSpec)

/-- ITS FALSE NEIGHBOUR: 'it returns false'. Refute it at one input. -/
def fnExactPageFaultWrong : ChangeSpec := { name := "fnExactPageFault", fn := fun _ => fun
  | [d] => { results := [.lit (.bool false)], args := [d] }
  | _ => none }
def FnExactPageFaultWrongFalsely : Prop := fnExactPageFaultRow.holds Try.pinned (OpenSpec.ofChange fnExactPageFaultWrong)

/-- 'laws.FnExactPackPage': WHATEVER THE INPUT: true; the input reads as it did. -/
def fnExactPackPageSpec : ChangeSpec := { name := "fnExactPackPage", fn := fun _ => fun
  | [d] => { results := [.lit (.bool true)], args := [d] }
  | _ => none }
def fnExactPackPageRow : OpenClaim := { program := "ythkbaabfhbjbgaa", sum := "727874b157b30a06f84cc8a72ecf9151e63cf30ec9f628a72d88ea73e805b0d8", func := "loop.example/g00270/laws.FnExactPackPage", spec := "fnExactPackPage", apart := false }
def FnExactPackPageSaid : Prop := fnExactPackPageRow.holds Try.pinned (OpenSpec.ofChange fnExactPackPageSpec)

/-- ITS FALSE NEIGHBOUR: 'it returns false'. Refute it at one input. -/
def fnExactPackPageWrong : ChangeSpec := { name := "fnExactPackPage", fn := fun _ => fun
  | [d] => { results := [.lit (.bool false)], args := [d] }
  | _ => none }
def FnExactPackPageWrongFalsely : Prop := fnExactPackPageRow.holds Try.pinned (OpenSpec.ofChange fnExactPackPageWrong)

/-- 'laws.FnExactUnpackPage': WHATEVER THE INPUT: true; the input reads as it did. -/
def fnExactUnpackPageSpec : ChangeSpec := { name := "fnExactUnpackPage", fn := fun _ => fun
  | [d] => { results := [.lit (.bool true)], args := [d] }
  | _ => none }
def fnExactUnpackPageRow : OpenClaim := { program := "ythkbaabfhbjbgaa", sum := "727874b157b30a06f84cc8a72ecf9151e63cf30ec9f628a72d88ea73e805b0d8", func := "loop.example/g00270/laws.FnExactUnpackPage", spec := "fnExactUnpackPage", unfollowed := true, recurses := true, apart := false }
def FnExactUnpackPageSaid : Prop := fnExactUnpackPageRow.holds Try.pinned (OpenSpec.ofChange fnExactUnpackPageSpec)

/-- ITS FALSE NEIGHBOUR: 'it returns false'. Refute it at one input. -/
def fnExactUnpackPageWrong : ChangeSpec := { name := "fnExactUnpackPage", fn := fun _ => fun
  | [d] => { results := [.lit (.bool false)], args := [d] }
  | _ => none }
def FnExactUnpackPageWrongFalsely : Prop := fnExactUnpackPageRow.holds Try.pinned (OpenSpec.ofChange fnExactUnpackPageWrong)

/-- 'laws.FnExactSumBytes': WHATEVER THE INPUT: true; the input reads as it did. -/
def fnExactSumBytesSpec : ChangeSpec := { name := "fnExactSumBytes", fn := fun _ => fun
  | [d] => { results := [.lit (.bool true)], args := [d] }
  | _ => none }
def fnExactSumBytesRow : OpenClaim := { program := "ythkbaabfhbjbgaa", sum := "727874b157b30a06f84cc8a72ecf9151e63cf30ec9f628a72d88ea73e805b0d8", func := "loop.example/g00270/laws.FnExactSumBytes", spec := "fnExactSumBytes", apart := false }
def FnExactSumBytesSaid : Prop := fnExactSumBytesRow.holds Try.pinned (OpenSpec.ofChange fnExactSumBytesSpec)

/-- ITS FALSE NEIGHBOUR: 'it returns false'. Refute it at one input. -/
def fnExactSumBytesWrong : ChangeSpec := { name := "fnExactSumBytes", fn := fun _ => fun
  | [d] => { results := [.lit (.bool false)], args := [d] }
  | _ => none }
def FnExactSumBytesWrongFalsely : Prop := fnExactSumBytesRow.holds Try.pinned (OpenSpec.ofChange fnExactSumBytesWrong)

/- THE SECOND FORM. 'bulk': how many values and letters a reading holds, each counted each time it is reached (what is shared counts as often as it is met; a slice's spare places count too). A statement '..UptoSaid' is the law's where the arguments, and the package variables that the reading takes, are together of bulk at most 1048576: NARROWER than '..Said'. Prove '..Said' where nothing that the law and all that it calls make is longer than what came in: it says more and counts as full. Else prove '..UptoSaid'. A law counts once. -/
mutual
def uptoBulk {H : Type} : DataW H → Nat
  | .lit (.string bytes) => bytes.length + 1
  | .lit _ => 1
  | .nil => 1
  | .ptr d => uptoBulk d + 1
  | .slice elems spare => uptoBulkAll elems + uptoBulkAll spare + 1
  | .agg parts => uptoBulkAll parts + 1
  | .iface _ d => uptoBulk d + 1
  | .map entries => uptoBulkEntries entries + 1
  | .held _ => 1
def uptoBulkAll {H : Type} : List (DataW H) → Nat
  | [] => 0
  | d :: r => uptoBulk d + uptoBulkAll r
def uptoBulkEntries {H : Type} : List (Lit × DataW H) → Nat
  | [] => 0
  | x :: r => uptoBulkEntry x + uptoBulkEntries r
def uptoBulkEntry {H : Type} : Lit × DataW H → Nat
  | (.string bytes, d) => bytes.length + uptoBulk d + 1
  | (_, d) => uptoBulk d + 1
 end
def uptoSmall : (H : Type) → List (DataW H) → Bool := fun _ ds => decide (uptoBulkAll ds ≤ 1048576)
def OpenSpec.upto (s : _root_.Go.ChangeSpec) : _root_.Go.OpenSpec := { _root_.Go.OpenSpec.ofChange s with cond := some uptoSmall }

/-- 'laws.FnPages', WHERE WHAT IT READS IS OF BULK AT MOST 1048576: true; the input reads as it did. -/
def fnPagesUptoRow : OpenClaim := { program := "ythkbaabfhbjbgaa", sum := "727874b157b30a06f84cc8a72ecf9151e63cf30ec9f628a72d88ea73e805b0d8", func := "loop.example/g00270/laws.FnPages", spec := "fnPages", unfollowed := true, recurses := true, apart := false, narrowed := true }
def FnPagesUptoSaid : Prop := fnPagesUptoRow.holds Try.pinned (OpenSpec.upto fnPagesSpec)

/-- 'laws.FnExactRowFault', WHERE WHAT IT READS IS OF BULK AT MOST 1048576: true; the input reads as it did. -/
def fnExactRowFaultUptoRow : OpenClaim := { program := "ythkbaabfhbjbgaa", sum := "727874b157b30a06f84cc8a72ecf9151e63cf30ec9f628a72d88ea73e805b0d8", func := "loop.example/g00270/laws.FnExactRowFault", spec := "fnExactRowFault", apart := false, narrowed := true }
def FnExactRowFaultUptoSaid : Prop := fnExactRowFaultUptoRow.holds Try.pinned (OpenSpec.upto fnExactRowFaultSpec)

/-- 'laws.FnExactPageFault', WHERE WHAT IT READS IS OF BULK AT MOST 1048576: true; the input reads as it did. -/
def fnExactPageFaultUptoRow : OpenClaim := { program := "ythkbaabfhbjbgaa", sum := "727874b157b30a06f84cc8a72ecf9151e63cf30ec9f628a72d88ea73e805b0d8", func := "loop.example/g00270/laws.FnExactPageFault", spec := "fnExactPageFault", apart := false, narrowed := true }
def FnExactPageFaultUptoSaid : Prop := fnExactPageFaultUptoRow.holds Try.pinned (OpenSpec.upto fnExactPageFaultSpec)

/-- 'laws.FnExactPackPage', WHERE WHAT IT READS IS OF BULK AT MOST 1048576: true; the input reads as it did. -/
def fnExactPackPageUptoRow : OpenClaim := { program := "ythkbaabfhbjbgaa", sum := "727874b157b30a06f84cc8a72ecf9151e63cf30ec9f628a72d88ea73e805b0d8", func := "loop.example/g00270/laws.FnExactPackPage", spec := "fnExactPackPage", apart := false, narrowed := true }
def FnExactPackPageUptoSaid : Prop := fnExactPackPageUptoRow.holds Try.pinned (OpenSpec.upto fnExactPackPageSpec)

/-- 'laws.FnExactUnpackPage', WHERE WHAT IT READS IS OF BULK AT MOST 1048576: true; the input reads as it did. -/
def fnExactUnpackPageUptoRow : OpenClaim := { program := "ythkbaabfhbjbgaa", sum := "727874b157b30a06f84cc8a72ecf9151e63cf30ec9f628a72d88ea73e805b0d8", func := "loop.example/g00270/laws.FnExactUnpackPage", spec := "fnExactUnpackPage", unfollowed := true, recurses := true, apart := false, narrowed := true }
def FnExactUnpackPageUptoSaid : Prop := fnExactUnpackPageUptoRow.holds Try.pinned (OpenSpec.upto fnExactUnpackPageSpec)

/-- 'laws.FnExactSumBytes', WHERE WHAT IT READS IS OF BULK AT MOST 1048576: true; the input reads as it did. -/
def fnExactSumBytesUptoRow : OpenClaim := { program := "ythkbaabfhbjbgaa", sum := "727874b157b30a06f84cc8a72ecf9151e63cf30ec9f628a72d88ea73e805b0d8", func := "loop.example/g00270/laws.FnExactSumBytes", spec := "fnExactSumBytes", apart := false, narrowed := true }
def FnExactSumBytesUptoSaid : Prop := fnExactSumBytesUptoRow.holds Try.pinned (OpenSpec.upto fnExactSumBytesSpec)

end Rows
end Go.Proofs.Ythkbaabfhbjbgaa
