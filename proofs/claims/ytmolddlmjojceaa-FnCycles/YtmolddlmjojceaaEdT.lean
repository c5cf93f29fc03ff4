
/- The set of edges: keys of a map. -/
import Derived.Test.YtmolddlmjojceaaEdA
import Derived.Test.YtmolddlmjojceaaEdK
import Derived.DeepKeys4
import Derived.Maps.Keyed
import Derived.Maps.RangeWalk
import Derived.MapViews
import Derived.ChangeSame
namespace Go.Proofs.Ytmolddlmjojceaa
open Go.RowKit Go.Maps Go.ChangeShapes

theorem Try.laidE : laidOutB Try.prog = true := by kernel_rfl
theorem Try.rowE : (33 : TypeId) < Try.prog.types.size := of_decide_eq_true (by kernel_rfl)
theorem Try.cellsE : Try.prog.cellsOf 33 = 2 := by kernel_rfl
theorem Try.cellsI : Try.prog.cellsOf 2 = 1 := by kernel_rfl
theorem Try.deepE : Try.prog.keyTypeAt (Try.prog.types.size + 1) 33 = true := by kernel_rfl
theorem Try.wideE : (match Try.prog.underlying 33 with | some (.array _ _) | some (.struct _) => true | _ => false) = true := by rw [Try.underlying33]
set_option maxRecDepth 100000 in
theorem Try.keyedE : Keyed Try.prog 33 := Keyed.of_law (deep_law_laid Try.laidE (m := 2) (by omega) Try.rowE (by kernel_rfl) Try.wideE)
theorem Try.formedE {c0 c1 : Value} : (Value.agg #[c0, c1]).formed Try.prog 33 = true := by simp [Value.formed, Try.underlying33, Try.cellsE]
/-- An edge as a key. -/
def ke (t m : Int) : Lit := (DataW.agg (H := Unit) [.lit (.int .i64 t), .lit (.int .i64 m)]).asKey
set_option maxRecDepth 100000 in
theorem ke_key (W : World) {t m : Int} (h1 : 1 ≤ t ∧ t ≤ 999) (h2 : 1 ≤ m ∧ m ≤ 999) : keyOf Try.prog 33 (.agg #[.int .i64 t, .int .i64 m]) = some (ke t m) := by
  have w1 : (Lit.int .i64 t).wf = true := WalkArith.wf_i64 (by omega)
  have w2 : (Lit.int .i64 m).wf = true := WalkArith.wf_i64 (by omega)
  have hT : DataW.Trod (H := Unit) (fun _ => ()) Try.prog W 0 (fun _ => true) true 33 (.agg #[.int .i64 t, .int .i64 m]) (.agg [.lit (.int .i64 t), .lit (.int .i64 m)]) [] := by
    refine ⟨2, ?_⟩
    have h0 := trod_int_mk (enc := fun _ => ()) (P := Try.prog) (w := W) (base := 0) (spare := fun _ => true) (held := true) 0 Try.underlying2 w1
    have h1 := trod_int_mk (enc := fun _ => ()) (P := Try.prog) (w := W) (base := 0) (spare := fun _ => true) (held := true) 0 Try.underlying2 w2
    exact trod_struct2_mk (n := 1) (cs := [.int .i64 t, .int .i64 m]) (y0 := (.lit (.int .i64 t), [])) (y1 := (.lit (.int .i64 m), [])) Try.underlying33 (by rw [Try.cellsE]; rfl) (by simp only [Try.cellsI]; exact h0) (by simp only [Try.cellsI]; exact h1)
  exact (keyOf_asKey Try.deepE Try.wideE Try.formedE hT).1
theorem ke_ne (W : World) {t m t' m' : Int} (h1 : 1 ≤ t ∧ t ≤ 999) (h2 : 1 ≤ m ∧ m ≤ 999) (h3 : 1 ≤ t' ∧ t' ≤ 999) (h4 : 1 ≤ m' ∧ m' ≤ 999) (hne : ¬ (t = t' ∧ m = m')) : ke t m ≠ ke t' m' := by
  intro e
  have a := ke_key W h1 h2
  rw [e] at a
  have := Try.keyedE.inj a (ke_key W h3 h4)
  simp at this
  exact hne this
end Go.Proofs.Ytmolddlmjojceaa
