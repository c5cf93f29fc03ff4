
/- slices.Backward over records: the contract of the function that it hands back. -/
import Derived.RangeFuncNested
import Derived.RangeFuncBound
import Derived.RangeFuncCalls
import Derived.RangeFuncLeaves
import Derived.RangeFuncBox
import Derived.Shelf.Abstract
import Derived.WalkKit
import Derived.OwnWalkIn
import Derived.TacticsInMore
import Derived.LoopNIn
import Derived.LoopIn
import Derived.Test.YtlpncikiaojmiaaRdM
import Derived.Test.YtlpncikiaojmiaaRvA
namespace Go.Proofs.Ytlpncikiaojmiaa
open Go.RowKit Go.Shelf

attribute [local go_sem] Oper.semAt_some

/-- A record without a fault, with its place. -/
abbrev FRec := { x : Int × Ch.Rec // x.2.Fit }
/-- What a round is handed. -/
abbrev encB (x : FRec) : Array Value := #[.int .i64 x.1.1, .agg #[.int .i64 x.1.2.kd, .int .i64 x.1.2.tx, .int .i64 x.1.2.ky, .bool x.1.2.hd, .int .i64 x.1.2.ol, .bool x.1.2.hs, .int .i64 x.1.2.nw]]
/-- The records that have come. -/
def recsB (pre : List FRec) : List Ch.Rec := pre.map (fun x => x.1.2)
theorem recsB_snoc (pre : List FRec) (x : FRec) : recsB (pre ++ [x]) = recsB pre ++ [x.1.2] := by simp [recsB]
theorem recsB_len (pre : List FRec) : (recsB pre).length = pre.length := by simp [recsB]

/-- What a round keeps: the records, and the iterator's own box. -/
def KpC (a : Option Addr) (n : Nat) (rs : List Ch.Rec) (Bn : Nat) (W W' : World) : Prop := (CellsAt W a (n * 7) (rc7 rs) → CellsAt W' a (n * 7) (rc7 rs)) ∧ ∀ v, W.cell? ⟨Bn, 0, none⟩ = some v → W'.cell? ⟨Bn, 0, none⟩ = some v
theorem KpC.t {a : Option Addr} {n : Nat} {rs : List Ch.Rec} {Bn : Nat} {A B C : World} (h : KpC a n rs Bn A B) (k : KpC a n rs Bn B C) : KpC a n rs Bn A C := ⟨fun h1 => k.1 (h.1 h1), fun v hv => k.2 v (h.2 v hv)⟩
theorem cell_putObj {W : World} {l : Nat} {o : Obj} (o' : Obj) (ho : W.heap[l]? = some o) (hc : o.isCells = false) {b off : Nat} {v : Value} (hv : W.cell? ⟨b, off, none⟩ = some v) : (W.putObj l o').cell? ⟨b, off, none⟩ = some v := by
  by_cases e : b = l
  · subst e
    exfalso
    unfold World.cell? at hv
    simp only [ho] at hv
    cases o <;> simp [Obj.isCells] at hc hv
  · have : (W.putObj l o').heap[b]? = W.heap[b]? := World.putObj_heap_other e
    unfold World.cell? at hv ⊢
    simp only [this]
    exact hv
theorem cellsAt_of {W W' : World} {a : Option Addr} {m : Nat} {xs : List Value} (h : CellsAt W a m xs) (hk : ∀ b off v, a = some ⟨b, 0, none⟩ ∨ True → W.cell? ⟨b, off, none⟩ = some v → W'.cell? ⟨b, off, none⟩ = some v) : CellsAt W' a m xs := by
  refine ⟨h.1, fun hp => ?_⟩
  obtain ⟨b, off, ha, hc⟩ := h.2 hp
  refine ⟨b, off, ha, fun i hi => ?_⟩
  have := hc i hi
  have hl : i < xs.length := by rw [h.1]; exact hi
  rw [List.getElem?_eq_getElem hl] at this ⊢
  exact hk b (off + i) _ (.inr trivial) this
theorem KpC.b {a : Option Addr} {n : Nat} {rs : List Ch.Rec} {Bn : Nat} (W : World) (l : Nat) (o o' : Obj) (ho : W.heap[l]? = some o) (hc : o.isCells = false) : KpC a n rs Bn W (W.putObj l o') :=
  ⟨fun h => cellsAt_of h (fun _ _ _ _ hv => cell_putObj o' ho hc hv), fun _ hv => cell_putObj o' ho hc hv⟩

end Go.Proofs.Ytlpncikiaojmiaa
