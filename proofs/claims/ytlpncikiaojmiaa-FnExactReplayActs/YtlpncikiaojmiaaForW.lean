
/- LeafFor: the model's and the program's walks. -/
import Derived.Test.YtlpncikiaojmiaaLvF
import Derived.Test.YtlpncikiaojmiaaForM
namespace Go.Proofs.Ytlpncikiaojmiaa
open Go.RowKit

theorem leafFor_code {ls : List (List Ch.Row)} {key : Int} (hc : (Ch.asked ls key != 0) = true) : Ch.leafFor ls key = (Ch.asked ls key, 0) := by
  rw [Ch.leafFor, if_pos hc]
theorem leafFor_none {ls : List (List Ch.Row)} {key : Int} (hc : (Ch.asked ls key != 0) = false) (h0 : ls.length = 0) : Ch.leafFor ls key = (4, 0) := by
  rw [Ch.leafFor, if_neg (by rw [hc]; exact Bool.false_ne_true), if_pos h0]
theorem leafFor_ok {ls : List (List Ch.Row)} {key : Int} (hc : (Ch.asked ls key != 0) = false) (h0 : ls.length ≠ 0) : Ch.leafFor ls key = (0, (Ch.forAt ls key ls.length : Int)) := by
  rw [Ch.leafFor, if_neg (by rw [hc]; exact Bool.false_ne_true), if_neg h0]

/-- A box of two cells behind a call. -/
theorem box2 {w w1 : World} {t : TypeId} {c0 c1 : Value} (b : Below (w.alloc (.cells #[c0, c1] t)).heap.size (w.alloc (.cells #[c0, c1] t)) w1) :
    w1.cell? ⟨w.heap.size, 0, none⟩ = some c0 ∧ w1.cell? ⟨w.heap.size, 1, none⟩ = some c1 := ⟨box_cell b 0, box_cell b 1⟩
theorem box_froz {w w1 : World} {t : TypeId} {cs : Array Value} (b : Below (w.alloc (.cells cs t)).heap.size (w.alloc (.cells cs t)) w1) (i : Nat) : w1.frozen? ⟨w.heap.size, i, none⟩ = false := by
  rw [(bcell b).2 w.heap.size i (by simp)]
  simp [go_sem]

/-- Keys as values. -/
def kts (ks : List Int) : List Value := ks.map (Value.int .i64)
theorem keys_at {w : World} {a : Option Addr} {n : Nat} {ks : List Int} (h : CellsAt w a n (kts ks)) {k : Nat} (hk : k < n) :
    ∃ b off, a = some ⟨b, off, none⟩ ∧ w.cell? ⟨b, off + k, none⟩ = some (.int .i64 (ks.getD k 0)) := by
  obtain ⟨b, off, ha, hc⟩ := h.2 (by omega)
  refine ⟨b, off, ha, ?_⟩
  have hl : ks.length = n := by simpa [kts] using h.1
  rw [hc k hk]
  simp [kts, List.getD, show k < ks.length by omega]

/-- What is asked first: the leaves, the keys. -/
def Ch.askedAll (ls : List (List Ch.Row)) (ks : List Int) : Int := if leavesFault ls != 0 then leavesFault ls else if ks.all (fun k => inB k 0 99) then 0 else 3

theorem askedAll_one (ls : List (List Ch.Row)) (key : Int) : Ch.askedAll ls [key] = Ch.asked ls key := by
  simp [Ch.askedAll, Ch.asked]

end Go.Proofs.Ytlpncikiaojmiaa
