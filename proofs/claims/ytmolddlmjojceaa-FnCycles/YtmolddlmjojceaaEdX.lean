
/- slices.SortFunc of edges at a list of one's own. -/
import Derived.Test.YtmolddlmjojceaaEdW
namespace Go.Proofs.Ytmolddlmjojceaa
open Go.RowKit Go.Maps Go.Sort

set_option maxRecDepth 100000 in
theorem sortE_any (B g n cap : Nat) (xs : List Ch.Hold) (w : World) (own : w.ownsRow B 33 2 (.slice (some ⟨g, 0, none⟩) n cap) n (hcells xs)) (hn : n ≤ 4194304) :
    Calls Try.prog 31 #[.slice (some ⟨g, 0, none⟩) n cap, .func (.func 32) #[] #[]] w fun e w' => e = .returned (.tuple #[]) ∧ (∃ ys : List Ch.Hold, ys.Perm xs ∧ ys.Pairwise (fun a b => Ch.ltE b a = false) ∧ w'.ownsRow B 33 2 (.slice (some ⟨g, 0, none⟩) n cap) n (hcells ys)) ∧ w.grownBy w' (some g) := by
  have eg : ∀ args w, (callFunc 32 args).run Try.prog w = .ok (.enter 32 args) w := enters_of Try.func32 (by kernel_rfl) rfl
  have hl : xs.length = n := by
    have := own.1
    rw [hcells_len] at this
    omega
  subst hl
  rcases own.2 with ⟨hnil, _⟩ | ⟨g', cap', cur, hv, hbase, hb, h1, h2, h3, h4⟩
  · cases hnil
  cases hv
  have hFs : ∀ ys : List Ch.Hold, (flatK encE 2 ys.toArray).size = ys.length * 2 := fun ys => by simp [flatK]
  have hH : HoldsK encE 2 w g 0 xs.toArray := holdsE hb (by rw [hFs, flat_hcells]; exact h4)
  have hcon := AnyQ.slices_SortFunc Try.sortEdges 2 Try.isAgg33 Try.sizeOf33 encE (fun _ => rfl) (fun x v hv => by simp [encE] at hv; rcases hv with rfl | rfl <;> rfl) cfE swoE 32 #[] g 0 cap xs.toArray w eg (cmpLaysE g 0 _ w) hH (Array.getElem?_eq_some_iff.1 hb).1 (by simp; omega)
  rw [List.size_toArray] at hcon
  refine Calls.mono hcon ?_
  rintro e w' ⟨rfl, d', nn, os, hp, hs, rfl⟩
  obtain ⟨ys, rfl⟩ : ∃ ys : List Ch.Hold, d' = ys.toArray := ⟨d'.toList, by simp⟩
  obtain ⟨hp1, _, hp3⟩ := hp
  have hyl : ys.length = xs.length := by simpa using hp1
  have hperm : ys.Perm xs := by
    have e1 : (ys.toArray.extract 0 xs.length).toList = ys := by simp [← hyl]
    have e2 : (xs.toArray.extract 0 xs.length).toList = xs := by simp
    rw [e1, e2] at hp3
    exact hp3
  refine ⟨rfl, ⟨ys, hperm, ?_, ?_⟩, grownBy_sortedE _⟩
  · rw [List.pairwise_iff_getElem]
    intro i j hi hj hij
    have := hs i j (Nat.zero_le _) hij (by omega)
    rw [ltE_of, getElem!_pos ys.toArray j (by simpa using hj), getElem!_pos ys.toArray i (by simpa using hi)] at this
    simpa using this
  · refine ⟨by rw [hcells_len]; omega, .inr ⟨g, cap, _, rfl, hbase, heap_sortedE _ hb, h1, h2, ?_, ?_⟩⟩
    · simp [putCells, h3]
    · have := take_putCellsE cur (flatK encE 2 ys.toArray) (by rw [hFs]; omega)
      rw [hFs, hyl, flat_hcells] at this
      exact this
end Go.Proofs.Ytmolddlmjojceaa
