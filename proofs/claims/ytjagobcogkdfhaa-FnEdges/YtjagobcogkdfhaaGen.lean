
/- Small laws on memory that stage 6 shares: only some blocks are written; rows that shrink; cells that are set. -/
import Derived.Test.YtjagobcogkdfhaaPackA
import Derived.Deep.RegionLaw
import Derived.Lib.SliceRun
import Derived.Laws.IdiomCopy
namespace Go.Proofs.Ytjagobcogkdfhaa
open Go.RowKit

/-- Only blocks from lo to hi are written. -/
structure Within (lo hi : Nat) (w w' : World) : Prop where
  os : w'.os = w.os
  tape : w'.tape = w.tape
  output : w'.output = w.output
  size : w.heap.size ≤ w'.heap.size
  block : ∀ k, k < w.heap.size → (k < lo ∨ hi ≤ k) → w'.heap[k]? = w.heap[k]?

theorem Within.refl (lo hi : Nat) (w : World) : Within lo hi w w := ⟨rfl, rfl, rfl, Nat.le_refl _, fun _ _ _ => rfl⟩
theorem Within.trans {lo hi : Nat} {a b c : World} (h : Within lo hi a b) (k : Within lo hi b c) : Within lo hi a c :=
  ⟨k.os.trans h.os, k.tape.trans h.tape, k.output.trans h.output, Nat.le_trans h.size k.size, fun j hj ho => (k.block j (Nat.lt_of_lt_of_le hj h.size) ho).trans (h.block j hj ho)⟩
theorem within_grown {lo hi g : Nat} {a b : World} (h : a.grownBy b (some g)) (h1 : lo ≤ g) (h2 : g < hi) : Within lo hi a b :=
  ⟨h.os, h.tape, h.output, h.size, fun k hk ho => h.block k hk (fun e => by simp at e; omega)⟩
theorem within_below {lo hi : Nat} {a b : World} (h : Below a.heap.size a b) : Within lo hi a b :=
  ⟨h.os, h.tape, h.output, h.size, fun k hk _ => h.block k hk⟩
theorem Within.toBelow {lo hi : Nat} {a b : World} (h : Within lo hi a b) {B : Nat} (hB : B ≤ lo) (hs : B ≤ a.heap.size) : Below B a b :=
  ⟨h.os, h.tape, h.output, h.size, fun k hk => h.block k (by omega) (.inl (by omega))⟩
theorem Within.owns {lo hi : Nat} {w w' : World} (hw : Within lo hi w w') {base : Nat} {e : TypeId} {size : Nat} {v : Value} {n : Nat} {xs : List Value} (h : w.ownsRow base e size v n xs) (hne : ∀ g, v.ownBlock = some g → g < lo ∨ hi ≤ g) : w'.ownsRow base e size v n xs := by
  refine ⟨h.1, ?_⟩
  rcases h.2 with h' | ⟨g, cap, cur, hv, hb, hh, h1, h2, h3, h4⟩
  · exact .inl h'
  · refine .inr ⟨g, cap, cur, hv, hb, ?_, h1, h2, h3, h4⟩
    have hlt := (owns_lt h g (by rw [hv]; rfl)).2
    rw [hw.block g hlt (hne g (by rw [hv]; rfl))]; exact hh

theorem within_cell {lo hi : Nat} {w w' : World} (hw : Within lo hi w w') {b o : Nat} {v : Value} (h : w.cell? ⟨b, o, none⟩ = some v) (hne : b < lo ∨ hi ≤ b) : w'.cell? ⟨b, o, none⟩ = some v :=
  (World.cell?_of_block (a := ⟨b, o, none⟩) (hw.block b (lt_of_cell h) hne)).trans h
theorem owns_setCells {base : Nat} {e : TypeId} {size g n cap : Nat} (news : List Value) : ∀ (j : Nat) (xs : List Value) (w : World), w.ownsRow base e size (.slice (some ⟨g, 0, none⟩) n cap) n xs → j + news.length ≤ xs.length →
    (w.setCells g j news).ownsRow base e size (.slice (some ⟨g, 0, none⟩) n cap) n (xs.take j ++ news ++ xs.drop (j + news.length)) ∧ w.grownBy (w.setCells g j news) (some g) := by
  induction news with
  | nil => intro j xs w h _; exact ⟨by simpa [World.setCells] using h, ⟨rfl, rfl, rfl, Nat.le_refl _, fun _ _ _ => rfl⟩⟩
  | cons u news ih =>
    intro j xs w h hj
    simp only [List.length_cons] at hj
    have hs := h.stored j u
    have ⟨h2, h3⟩ := ih (j + 1) _ _ hs.1 (by simp; omega)
    refine ⟨?_, gr_trans hs.2 h3⟩
    have e : (xs.set j u).take (j + 1) ++ news ++ (xs.set j u).drop (j + 1 + news.length) = xs.take j ++ u :: news ++ xs.drop (j + (news.length + 1)) := by
      rw [List.drop_set, if_pos (by omega), Ch.take_snoc _ u j (by simp; omega), List.take_set]
      rw [List.set_eq_of_length_le (by simp; omega)]
      have : (xs.set j u).getD j u = u := by simp [List.getD, show j < xs.length by omega]
      rw [this, show j + 1 + news.length = j + (news.length + 1) by omega]
      simp
    simp only [World.setCells, List.length_cons]
    rw [← e]
    exact h2
theorem owns_shrink {w : World} {base : Nat} {e : TypeId} {size g n cap m : Nat} {xs : List Value} (h : w.ownsRow base e size (.slice (some ⟨g, 0, none⟩) n cap) n xs) (hm : m ≤ n) : w.ownsRow base e size (.slice (some ⟨g, 0, none⟩) m cap) m (xs.take (m * size)) := by
  rcases h.2 with ⟨hv, _⟩ | ⟨g', cp, cur, hv, hb, hh, h1, h2, h3, h4⟩
  · simp at hv
  · simp only [Value.slice.injEq, Option.some.injEq, Addr.mk.injEq, and_true, true_and] at hv
    obtain ⟨rfl, rfl⟩ := hv
    have hle : m * size ≤ n * size := Nat.mul_le_mul_right _ hm
    refine ⟨by rw [List.length_take, h.1]; omega, .inr ⟨g, cap, cur, rfl, hb, hh, by omega, h2, h3, ?_⟩⟩
    rw [← h4, List.take_take, Nat.min_eq_left hle]

end Go.Proofs.Ytjagobcogkdfhaa
