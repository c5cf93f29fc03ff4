
/- The library's Delete at rows and at leaves: one element. -/
import Derived.Test.YtjjbjdjkcckgmaaCopyW
import Derived.Deep.RegionLaw
import Derived.Lib.SliceRun
import Derived.Laws.IdiomCopy
namespace Go.Proofs.Ytjjbjdjkcckgmaa
open Go.RowKit

theorem owns_setCells {base : Nat} {e : TypeId} {size g n cap : Nat} (news : List Value) : ∀ (j : Nat) (xs : List Value) (w : World), w.ownsRow base e size (.slice (some ⟨g, 0, none⟩) n cap) n xs → j + news.length ≤ xs.length →
    (w.setCells g j news).ownsRow base e size (.slice (some ⟨g, 0, none⟩) n cap) n (xs.take j ++ news ++ xs.drop (j + news.length)) ∧ w.grownBy (w.setCells g j news) (some g) := by
  induction news with
  | nil => intro j xs w h _; exact ⟨by simpa [World.setCells] using h, ⟨rfl, rfl, rfl, Nat.le_refl _, fun _ _ _ => rfl⟩⟩
  | cons u news ih =>
    intro j xs w h hj
    simp only [List.length_cons] at hj
    have hs := h.stored j u
    have ⟨h2, h3⟩ := ih (j + 1) _ _ hs.1 (by simp; omega)
    refine ⟨?_, gr_trans hs.2 h3⟩
    have e : (xs.set j u).take (j + 1) ++ news ++ (xs.set j u).drop (j + 1 + news.length) = xs.take j ++ u :: news ++ xs.drop (j + (news.length + 1)) := by
      rw [List.drop_set, if_pos (by omega), Ch.take_snoc _ u j (by simp; omega), List.take_set]
      rw [List.set_eq_of_length_le (by simp; omega)]
      have : (xs.set j u).getD j u = u := by simp [List.getD, show j < xs.length by omega]
      rw [this, show j + 1 + news.length = j + (news.length + 1) by omega]
      simp
    simp only [World.setCells, List.length_cons]
    rw [← e]
    exact h2
theorem owns_shrink {w : World} {base : Nat} {e : TypeId} {size g n cap m : Nat} {xs : List Value} (h : w.ownsRow base e size (.slice (some ⟨g, 0, none⟩) n cap) n xs) (hm : m ≤ n) : w.ownsRow base e size (.slice (some ⟨g, 0, none⟩) m cap) m (xs.take (m * size)) := by
  rcases h.2 with ⟨hv, _⟩ | ⟨g', cp, cur, hv, hb, hh, h1, h2, h3, h4⟩
  · simp at hv
  · simp only [Value.slice.injEq, Option.some.injEq, Addr.mk.injEq, and_true, true_and] at hv
    obtain ⟨rfl, rfl⟩ := hv
    have hle : m * size ≤ n * size := Nat.mul_le_mul_right _ hm
    refine ⟨by rw [List.length_take, h.1]; omega, .inr ⟨g, cap, cur, rfl, hb, hh, by omega, h2, h3, ?_⟩⟩
    rw [← h4, List.take_take, Nat.min_eq_left hle]

theorem clearR (w : World) (ty b o c : Nat) (hc : ∀ j, j < 3 → (w.cell? ⟨b, o + j, none⟩).isSome = true) (hf : ∀ j, j < 3 → w.frozen? ⟨b, o + j, none⟩ = false) :
    (Builtin.clear_ #[25] ty #[.slice (some ⟨b, o, none⟩) 1 c]).run Try.prog w = .ok (.tuple #[]) (w.setCells b o [.int .i64 0, .int .i64 0, .bool false]) := by
  have hv : ∀ W, (zeroValue 49).run Try.prog W = .ok (.agg #[.int .i64 0, .int .i64 0, .bool false]) W := fun _ => by kernel_rfl
  have hzc : (Builtin.zeroCells (Value.cells (.agg #[.int .i64 0, .int .i64 0, .bool false])) 1).toList = [.int .i64 0, .int .i64 0, .bool false] := by kernel_rfl
  have hst := run_storeCells_cells (P := Try.prog) b o [.int .i64 0, .int .i64 0, .bool false] 0 w (by simpa using hc) (by simpa using hf) (by decide)
  simp only [Nat.add_zero] at hst
  simp [Builtin.clear_, run_underlying Try.underlying25, hv, hzc, hst]

theorem clearL (w : World) (ty b o c : Nat) (hc : ∀ j, j < 1 → (w.cell? ⟨b, o + j, none⟩).isSome = true) (hf : ∀ j, j < 1 → w.frozen? ⟨b, o + j, none⟩ = false) :
    (Builtin.clear_ #[26] ty #[.slice (some ⟨b, o, none⟩) 1 c]).run Try.prog w = .ok (.tuple #[]) (w.setCells b o [.slice none 0 0]) := by
  have hv : ∀ W, (zeroValue 65).run Try.prog W = .ok (.agg #[.slice none 0 0]) W := fun _ => by kernel_rfl
  have hzc : (Builtin.zeroCells (Value.cells (.agg #[.slice none 0 0])) 1).toList = [.slice none 0 0] := by kernel_rfl
  have hst := run_storeCells_cells (P := Try.prog) b o [.slice none 0 0] 0 w (by simpa using hc) (by simpa using hf) (by decide)
  simp only [Nat.add_zero] at hst
  simp [Builtin.clear_, run_underlying Try.underlying26, hv, hzc, hst]

end Go.Proofs.Ytjjbjdjkcckgmaa
