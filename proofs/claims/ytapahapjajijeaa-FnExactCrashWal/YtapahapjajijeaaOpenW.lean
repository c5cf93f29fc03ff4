
/- A log that came in, opened. -/
import Derived.Test.YtapahapjajijeaaOpen
namespace Go.Proofs.Ytapahapjajijeaa
open Go.ChangeShapes Go.WideShapes Go.ChangeAt Go.RowKit Go.Joins Go.Deep

theorem len_bytes {H : Type} {enc : TypeId × Value → H} {w : World} {base : Nat} {spare : Nat → Bool} {held : Bool} {a : Option Addr} {len cap fuel : Nat} {y : DataW H × List MemPlace}
    (hk : Try.prog.cellsOf 5 = 1) (hf : DataW.trod enc Try.prog w base spare held fuel 22 [.slice a len cap] = some y) : len ≤ 9223372036854775807 := by
  rcases open_ints Try.underlying22 Try.underlying5 hk hf with ⟨hcs, _⟩ | ⟨x, l, c, zs, hcs, _, hl, hm, _⟩
  · simp at hcs
    omega
  · simp at hcs
    unfold maxLen at hm
    omega

theorem Try.cellsWal : Try.prog.cellsOf 66 = 2 := by kernel_rfl

set_option maxRecDepth 100000 in
theorem open_wal {H : Type} {enc : TypeId × Value → H} {w : World} {base b0 : Nat} {spare : Nat → Bool} {held : Bool} {r : Reach} {v : Value} {d : DataW H} {p : List MemPlace}
    (hv : Value.okWide Try.prog w r b0 66 v) (h : DataW.Trod enc Try.prog w base spare held 66 v d p) :
    ∃ a n cap a' m cap' ss ls, v = .agg #[.slice a n cap, .slice a' m cap'] ∧ CellsAt w a n (bts ss) ∧ CellsAt w a' m (bts ls) ∧ IsB ss ∧ IsB ls ∧ n ≤ 9223372036854775807 ∧ m ≤ 9223372036854775807 := by
  obtain ⟨c0, c1, y0, y1, f, rfl, _, _, hy0, hy1⟩ := open_agg2 Try.underlying66 (by kernel_rfl) Try.cellsWal hv h
  obtain ⟨a, n, cap, e0⟩ := slice_form Try.underlying22 hy0
  obtain ⟨a', m, cap', e1⟩ := slice_form Try.underlying22 hy1
  simp at e0 e1
  subst e0 e1
  obtain ⟨⟨ss, hs, hbs⟩, _⟩ := open_bytesF (by kernel_rfl) hy0
  obtain ⟨⟨ls, hl, hbl⟩, _⟩ := open_bytesF (by kernel_rfl) hy1
  exact ⟨a, n, cap, a', m, cap', ss, ls, rfl, hs, hl, hbs, hbl, len_bytes (by kernel_rfl) hy0, len_bytes (by kernel_rfl) hy1⟩
end Go.Proofs.Ytapahapjajijeaa
