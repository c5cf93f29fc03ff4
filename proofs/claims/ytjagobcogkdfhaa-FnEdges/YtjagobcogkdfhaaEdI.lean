
/- EdgesOf of the model; the set of edges: keys of a map. -/
import Derived.Test.YtjagobcogkdfhaaEdHZ
import Derived.Test.YtjagobcogkdfhaaLkZ
import Derived.Test.YtjagobcogkdfhaaLkV
import Derived.DeepKeys4
import Derived.Maps.Keyed
namespace Go.Proofs.Ytjagobcogkdfhaa
open Go.RowKit Go.Maps

theorem Ch.edgesR_bad {ls : List Ch.Lock} {c : Int} (h : Ch.locksFault ls = c) (h0 : c ≠ 0) : Ch.edgesR ls = (c, []) := by
  unfold Ch.edgesR; rw [h, if_pos (by simpa using h0)]
theorem Ch.edgesR_ok {ls : List Ch.Lock} (h : Ch.locksFault ls = 0) : Ch.edgesR ls = (0, Ch.sortE (Ch.allE ls)) := by
  unfold Ch.edgesR; rw [h]; rfl

def EdgesD (ls : List Ch.Lock) (w : World) (e : Ending) (w' : World) : Prop :=
  ∃ a' m c', e = .returned (.agg #[.int .i64 (Ch.edgesR ls).1, .slice a' m c']) ∧ m ≤ 1048576 ∧ w'.ownsRow w.heap.size 46 2 (.slice a' m c') m (hcells (Ch.edgesR ls).2) ∧ Below w.heap.size w w'

set_option linter.unusedSimpArgs false in
set_option maxRecDepth 20000 in
set_option maxHeartbeats 2000000 in
theorem specEdges_any (a : Option Addr) (n cap : Nat) (ls : List Ch.Lock) (w : World) (h : LkAt w a n ls) (hs : Ch.lkSize ls ≤ 1048576) :
    Calls Try.prog 26 #[.slice a n cap] w fun e w' => EdgesD ls w e w' := by
  have IA := fun W hW => l6Fault_any a n cap ls W hW hs
  have kA : ∀ o, Below w.heap.size w (w.alloc o) := fun o => (Below.refl _ _).alloc (Nat.le_refl _) o
  obtain ⟨c, HC⟩ : ∃ c, Hid (Ch.locksFault ls = c) := ⟨_, rfl⟩
  rw [HC.out] at IA
  by_cases h0 : c = 0
  · subst h0
    have HR := hid (Ch.edgesR_ok HC.out)
    go_enter Try.func26, Try.ntmps26
    go_wp2_with fail
    refine (IA _ (h.below (kA _))).mono ?_
    rintro e w1 ⟨rfl, b1⟩
    have hR := heap_below b1 (heap_alloc_new w _)
    have b1 := below_box b1
    clear IA
    go_wp2_with fail
    refine (l7Edges_any a n cap ls _ (h.below b1) HC.out).mono ?_
    rintro e w2 ⟨g, m, c2, rfl, hm, own, b2⟩
    have hR2 := heap_below b2 hR
    have b2' := b1.trans (b2.mono b1.size)
    have z1 := b1.size
    obtain ⟨x0, x1, f0, f1⟩ := row2 hR2
    have lx := lt_of_cell x0
    have hwx : w.heap.size < w1.heap.size := (Array.getElem?_eq_some_iff.1 hR).1
    clear hR hR2
    go_wp2
    refine bodyPost_ret (v := .agg #[.int .i64 0, .slice (some ⟨g, 0, none⟩) m c2]) (by simp [results, Try.results26, go_sem, x0, x1]) rfl ⟨some ⟨g, 0, none⟩, m, c2, by rw [HR.out], by omega, ?_, ?_⟩
    · rw [HR.out]
      refine owns_base (base := w1.heap.size) (ownsRow_setCell_below (ownsRow_setCell_below own ?_ _) ?_ _) (by omega)
      · show w.heap.size < w1.heap.size; omega
      · show w.heap.size < w1.heap.size; omega
    · exact (b2'.setCell (p := ⟨w.heap.size, 0, none⟩) (Nat.le_refl _) _).setCell (p := ⟨w.heap.size, 1, none⟩) (Nat.le_refl _) _
  · have HR := hid (Ch.edgesR_bad HC.out h0)
    clear HC
    go_enter Try.func26, Try.ntmps26
    go_wp2_with fail
    refine (IA _ (h.below (kA _))).mono ?_
    rintro e w1 ⟨rfl, b1⟩
    have hR := heap_below b1 (heap_alloc_new w _)
    have b1 := below_box b1
    obtain ⟨x0, x1, f0, f1⟩ := row2 hR
    have lx := lt_of_cell x0
    go_wp2
    exact bodyPost_ret (v := .agg #[.int .i64 c, .slice none 0 0]) (by simp [results, Try.results26, go_sem, x0, x1]) rfl ⟨none, 0, 0, by rw [HR.out], by omega, by rw [HR.out]; exact World.ownsRow_nil _ _ _ _, (b1.setCell (p := ⟨w.heap.size, 0, none⟩) (Nat.le_refl _) _).setCell (p := ⟨w.heap.size, 1, none⟩) (Nat.le_refl _) _⟩
end Go.Proofs.Ytjagobcogkdfhaa
