
/- Small laws on memory that stage 6 shares: only some blocks are written; rows that shrink; cells that are set. -/
import Derived.Test.YtmolddlmjojceaaWth
import Derived.Test.YtmolddlmjojceaaPackA
import Derived.Deep.RegionLaw
import Derived.Lib.SliceRun
import Derived.Laws.IdiomCopy
namespace Go.Proofs.Ytmolddlmjojceaa
open Go.RowKit

theorem owns_setCells {base : Nat} {e : TypeId} {size g n cap : Nat} (news : List Value) : ∀ (j : Nat) (xs : List Value) (w : World), w.ownsRow base e size (.slice (some ⟨g, 0, none⟩) n cap) n xs → j + news.length ≤ xs.length →
    (w.setCells g j news).ownsRow base e size (.slice (some ⟨g, 0, none⟩) n cap) n (xs.take j ++ news ++ xs.drop (j + news.length)) ∧ w.grownBy (w.setCells g j news) (some g) := by
  induction news with
  | nil => intro j xs w h _; exact ⟨by simpa [World.setCells] using h, ⟨rfl, rfl, rfl, Nat.le_refl _, fun _ _ _ => rfl⟩⟩
  | cons u news ih =>
    intro j xs w h hj
    simp only [List.length_cons] at hj
    have hs := h.stored j u
    have ⟨h2, h3⟩ := ih (j + 1) _ _ hs.1 (by simp; omega)
    refine ⟨?_, gr_trans hs.2 h3⟩
    have e : (xs.set j u).take (j + 1) ++ news ++ (xs.set j u).drop (j + 1 + news.length) = xs.take j ++ u :: news ++ xs.drop (j + (news.length + 1)) := by
      rw [List.drop_set, if_pos (by omega), Ch.take_snoc _ u j (by simp; omega), List.take_set]
      rw [List.set_eq_of_length_le (by simp; omega)]
      have : (xs.set j u).getD j u = u := by simp [List.getD, show j < xs.length by omega]
      rw [this, show j + 1 + news.length = j + (news.length + 1) by omega]
      simp
    simp only [World.setCells, List.length_cons]
    rw [← e]
    exact h2
theorem owns_shrink {w : World} {base : Nat} {e : TypeId} {size g n cap m : Nat} {xs : List Value} (h : w.ownsRow base e size (.slice (some ⟨g, 0, none⟩) n cap) n xs) (hm : m ≤ n) : w.ownsRow base e size (.slice (some ⟨g, 0, none⟩) m cap) m (xs.take (m * size)) := by
  rcases h.2 with ⟨hv, _⟩ | ⟨g', cp, cur, hv, hb, hh, h1, h2, h3, h4⟩
  · simp at hv
  · simp only [Value.slice.injEq, Option.some.injEq, Addr.mk.injEq, and_true, true_and] at hv
    obtain ⟨rfl, rfl⟩ := hv
    have hle : m * size ≤ n * size := Nat.mul_le_mul_right _ hm
    refine ⟨by rw [List.length_take, h.1]; omega, .inr ⟨g, cap, cur, rfl, hb, hh, by omega, h2, h3, ?_⟩⟩
    rw [← h4, List.take_take, Nat.min_eq_left hle]

end Go.Proofs.Ytmolddlmjojceaa
