
/- l3Copy of the model: leaves copied. -/
import Derived.Test.YtjjbjdjkcckgmaaPutB
import Derived.Test.YtjjbjdjkcckgmaaDropS
namespace Go.Proofs.Ytjjbjdjkcckgmaa
open Go.RowKit

set_option maxHeartbeats 4000000 in
theorem specCopy_any (a : Option Addr) (n cap : Nat) (ls : List (List Ch.Row)) (w : World) (h : LvAt w a n ls) (hs : Ch.lvSize ls ≤ 1048576) (hg : ∀ k, k < n → (ls.getD k []).length ≠ 0) :
    Calls Try.prog 30 #[.slice a n cap] w fun e w' => ∃ a' c', e = .returned (.slice a' n c') ∧ OwnLv w' w.heap.size (.slice a' n c') n ls ∧ Below w.heap.size w w' := by
  have HL := h.len
  have hn : n ≤ 1048576 := by unfold Ch.lvSize at hs; have := HL.out; omega
  have o0 := empty_leaves w w.heap.size (Nat.le_refl _)
  have O0 : OwnLv (w.alloc (.cells #[] 65)) w.heap.size (.slice (some ⟨w.heap.size, 0, none⟩) 0 0) 0 [] := ⟨rfl, [], o0, fun i hi => absurd hi (by omega), fun i j x y g _ hx => by simp at hx, fun i x g hx => by simp at hx⟩
  clear o0
  go_enter Try.func30, Try.ntmps30
  go_wp2
  go_loopw [3, 4] (fun q i wr => ∃ (k : Nat) (a' : Option Addr) (c' : Nat), k ≤ n ∧ i = .int .i64 k ∧ q = .slice a' k c' ∧ OwnLv wr w.heap.size (.slice a' k c') k (ls.take k) ∧ Below w.heap.size w wr) (fun _ i _ => n - (intOf i).toNat)
  case atStart => exact ⟨0, _, _, Nat.zero_le _, rfl, rfl, by simpa using O0, (Below.refl _ _).alloc (Nat.le_refl _) _⟩
  case round =>
    clear O0
    obtain ⟨k, a', c', hk, rfl, rfl, own, hB⟩ := hrel
    by_cases hlt : k < n
    · have hkl : k < ls.length := by have := HL.out; omega
      have HS := hid (Ch.lv_leaf hs k)
      have HT := hid (Ch.take_snoc ls [] k hkl)
      have hl0 := hg k hlt
      obtain ⟨b, off, ai, ni, ci, rfl, hc, hr, hni⟩ := h.leaf hlt
      have HRl := hr.rlen
      have hni' : ni ≤ 1048576 := by have := HS.out; have := HRl.out; omega
      have hni0 : 0 < ni := by have := HRl.out; omega
      generalize ls.getD k [] = l at *
      generalize ls.take k = DL at *
      clear HS hl0
      have hcr := keep_cell hB hc
      have hrr := hr.below hB
      have hbl := lt_of_cell hcr
      obtain ⟨bi, oi, rfl, _⟩ := hr.2 (by omega)
      have e0 := empty_rows wr wr.heap.size (Nat.le_refl _)
      have bR : Below wr.heap.size wr (wr.alloc (.cells #[] 49)) := (Below.refl _ _).alloc (Nat.le_refl _) _
      have hr1 := hrr.below bR
      obtain ⟨vs, hV⟩ := own.told
      have hoV := hV.2.1
      have hsum : k + 1 ≤ 2097152 := by omega
      have hsum0 : 0 + ni ≤ 2097152 := by omega
      have bA : ∀ (W : World) o, Below W.heap.size W (W.alloc o) := fun W o => (Below.refl _ _).alloc (Nat.le_refl _) _
      have hBs := hB.size
      go_wp2_with (at_builtin; first | (refine wpList_appRs (.tmp 13) (.tmp 18) wr.heap.size (.slice (some ⟨wr.heap.size, 0, none⟩) 0 0) 0 [] ni l hsum0 ?_ ?_ ?_ ?_ ?_ ?_ ?_; exact rfl; exact rfl; exact rfl; exact ⟨_, _, rfl, hr1⟩; exact e0; (focus (simp; done)); intro a2 c2 w2 own2 b2; have b2' := bR.trans b2; have own2' := owns_below hoV b2'; simp only [Nat.zero_add, List.nil_append] at own2) | (go_must (refine wpList_appLv (.tmp 12) (.tmp 21) w.heap.size (.slice a' k c') k vs 1 [.slice a2 ni c2] hsum (by simp [Value.oneCell']) ?_ ?_ ?_ ?_ ?_ ?_ ?_ (by omega); exact rfl; exact rfl; exact rfl; exact ⟨_, _, rfl, one_leaf rfl⟩; exact owns_below own2' (bA _ _); (focus (have := b2'.size; simp; omega)); intro a3 c3 w3 own3 gr3 at3)))
      go_roundw
      case rel =>
        have hbq := hB.trans (b2'.mono hBs)
        refine ⟨k + 1, a3, c3, by omega, by go_num, rfl, ?_, ?_⟩
        · rw [HT.out]
          refine OwnLv.snoc hV b2' ?_ hBs rfl own3 gr3 at3
          have := HRl.out
          rw [← this]
          exact own2
        · refine (hbq.alloc hbq.size _).grown gr3 (by have := hbq.size; simp; omega) ?_
          intro j hj
          exact (owns_lt hoV j hj).1
      case measure => simp [intOf]; omega
    · obtain rfl : k = n := by omega
      go_wp2
      go_ret
      have e1 := HL.out
      rw [List.take_of_length_le (by omega)] at own
      exact ⟨a', c', rfl, own, hB⟩
end Go.Proofs.Ytjjbjdjkcckgmaa
