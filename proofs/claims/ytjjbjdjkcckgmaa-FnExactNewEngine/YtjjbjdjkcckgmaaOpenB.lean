
/- Lists of rows and of befores that came in, opened. -/
import Derived.Test.YtjjbjdjkcckgmaaOpenL
import Derived.Test.YtjjbjdjkcckgmaaBfA
namespace Go.Proofs.Ytjjbjdjkcckgmaa
open Go.ChangeShapes Go.WideShapes Go.ChangeAt Go.RowKit Go.Joins Go.Deep

theorem bfcells_map (f : Nat → Ch.Bf) (n i : Nat) (hi : i < n * 3) : (bfcells ((List.range n).map f))[i]? = if i % 3 = 0 then some (.int .i64 (f (i / 3)).k) else if i % 3 = 1 then some (.bool (f (i / 3)).h) else some (.int .i64 (f (i / 3)).v) := by
  have hq : i / 3 < n := by omega
  obtain ⟨h0, h1, h2⟩ := bfcells_at ((List.range n).map f) (i / 3) (by simpa using hq)
  have e : ((List.range n).map f).getD (i / 3) Ch.Bf.zero = f (i / 3) := by simp [List.getD, hq]
  rw [e] at h0 h1 h2
  have hm : i % 3 = 0 ∨ i % 3 = 1 ∨ i % 3 = 2 := by omega
  rcases hm with hm | hm | hm
  · rw [if_pos hm, ← h0]; congr 1; omega
  · rw [if_neg (by omega), if_pos hm, ← h1]; congr 1; omega
  · rw [if_neg (by omega), if_neg (by omega), ← h2]; congr 1; omega

theorem open_rows {H : Type} {enc : TypeId × Value → H} {w : World} {base : Nat} {spare : Nat → Bool} {held : Bool} {a : Option Addr} {len cap : Nat} {d : DataW H} {p : List MemPlace}
    (h : DataW.Trod enc Try.prog w base spare held 22 (.slice a len cap) d p) : (∃ rs, CellsAt w a (len * 3) (rcells rs)) ∧ len ≤ 9223372036854775807 := by
  obtain ⟨fuel, hf⟩ := h
  have := open_rowsF (by kernel_rfl) (by kernel_rfl) (by kernel_rfl) (y := (d, p)) (by simpa [Value.cells] using hf)
  exact ⟨this.1, by have := this.2; unfold maxLen at this; omega⟩
end Go.Proofs.Ytjjbjdjkcckgmaa
