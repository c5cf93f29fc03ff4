
/- Walks on leaves: comparisons; LeavesFault of the model and of the program. -/
import Derived.Test.YthfanfnbjldddaaGreatLvW
namespace Go.Proofs.YthfanfnbjldddaaGreat
open Go.RowKit

theorem lastKey_any (a : Option Addr) (n cap : Nat) (rs : List Ch.Row) (w : World) (h : CellsAt w a (n * 3) (rcells rs)) (h0 : n ≠ 0) (hn : n ≤ 1099511627776) :
    Calls Tryz.prog 74 #[.agg #[.slice a n cap]] w fun e w' => e = .returned (.int .i64 (Ch.lastK rs)) ∧ Below w.heap.size w w' := by
  obtain ⟨m, rfl⟩ : ∃ m, n = m + 1 := ⟨n - 1, by omega⟩
  have HL := h.rlen
  obtain ⟨b, off, rfl, hc0, hc1, hc2⟩ := h.row (k := m) (by omega)
  have HK : Hid (Ch.lastK rs = (rs.getD m Ch.Row.zero).k) := by
    show _ = _
    have := HL.out
    rw [Ch.lastK, ← this]; rfl
  have hbl := lt_of_cell hc0
  generalize rs.getD m Ch.Row.zero = r at *
  obtain ⟨rk, rv, rg⟩ := r
  simp only at hc0 hc1 hc2 HK
  go_enter Tryz.func74, Tryz.ntmps74
  go_wp2
  go_ret
  exact ⟨ret_int HK.out.symm, (Below.refl _ _).alloc (Nat.le_refl _) _⟩

end Go.Proofs.YthfanfnbjldddaaGreat
