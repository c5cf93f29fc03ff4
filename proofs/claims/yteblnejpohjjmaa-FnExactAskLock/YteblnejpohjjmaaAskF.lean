/- l6Place. -/
import Derived.Test.YteblnejpohjjmaaAskE
namespace Go.Proofs.Yteblnejpohjjmaa
open Go.RowKit

theorem cells_take {w : World} {a : Option Addr} {m : Nat} {xs : List Value} (h : CellsAt w a m xs) {k : Nat} (hk : k ≤ m) : CellsAt w a k (xs.take k) := by
  refine ⟨by rw [List.length_take, h.1]; omega, fun h0 => ?_⟩
  obtain ⟨b, off, ha, hc⟩ := h.2 (by omega)
  refine ⟨b, off, ha, fun i hi => ?_⟩
  rw [hc i (by omega), List.getElem?_take, if_pos hi]
theorem cells_drop {w : World} {b off m : Nat} {xs : List Value} (h : CellsAt w (some ⟨b, off, none⟩) m xs) {k : Nat} (hk : k ≤ m) : CellsAt w (some ⟨b, off + k, none⟩) (m - k) (xs.drop k) := by
  refine ⟨by rw [List.length_drop, h.1], fun hm => ?_⟩
  obtain ⟨b', off', ha, hc⟩ := h.2 (by omega)
  simp only [Option.some.injEq, Addr.mk.injEq, and_true] at ha
  obtain ⟨rfl, rfl⟩ := ha
  refine ⟨b, off + k, rfl, fun i hi => ?_⟩
  rw [List.getElem?_drop, Nat.add_assoc, hc _ (by omega)]

set_option maxRecDepth 20000 in
set_option maxHeartbeats 1000000 in
theorem l6Place_any (B o n cap : Nat) (r : Int) (ls : List Ch.Lock) (vs : List (Value × Value)) (w : World) (own : OwnK 83 w B (.slice (some ⟨o, 0, none⟩) n cap) n ls vs) (hn : n ≤ 1048576) (hB : B ≤ w.heap.size) :
    Calls Try.prog 90 #[.slice (some ⟨o, 0, none⟩) n cap, .int .i64 r] w fun e w' => ∃ a' m c', e = .returned (.tuple #[.slice a' m c', .int .i64 (Ch.placeR r ls)]) ∧ OwnLk 83 w' B (.slice a' m c') m (Ch.withL r ls) ∧ Below B w w' := by
  have HL : Hid (ls.length = n) := own.len
  have HOwn := hid own
  have h1x := hid own.one'
  have HCap := hid (owns_cap own.row)
  obtain ⟨i0, hi0, hz0, hz1, hz2⟩ := info_parts Try.info83
  go_enter Try.func90, Try.ntmps90
  go_wp2
  go_loopw [6] (fun i wr => ∃ k : Nat, k ≤ n ∧ i = .int .i64 k ∧ Hid (∀ j, j < k → (Ch.lkAt ls j).r < r) ∧ wr = w) (fun i _ => n - (intOf i).toNat)
  case atStart => exact ⟨0, Nat.zero_le _, rfl, (fun j hj => by omega), rfl⟩
  case round =>
    obtain ⟨k, hk, rfl, HA, rfl⟩ := hrel
    have HINS : (k < ls.length → r < (Ch.lkAt ls k).r) → Hid (Ch.placeR r ls = k ∧ Ch.withL r ls = ls.take k ++ [⟨r, [], []⟩] ++ ls.drop k) := fun hh => Ch.with_no (by have := HL.out; omega) HA.out hh
    by_cases hlt : k < n
    · have hkl : k < ls.length := by have := HL.out; omega
      obtain ⟨ah, ch, aq, cq, hp, c0, c1, c2, f1, f2, o1, o2, ne, nr, ob1, ob2⟩ := own.one hlt
      have HNX : Hid ((Ch.lkAt ls k).r < r → ∀ j, j < k + 1 → (Ch.lkAt ls j).r < r) := fun hh j hj => by
        rcases Nat.lt_or_eq_of_le (Nat.le_of_lt_succ hj) with h1 | h1
        · exact HA.out j h1
        · subst h1; exact hh
      have HYES : Hid ((Ch.lkAt ls k).r = r → Ch.placeR r ls = k ∧ Ch.withL r ls = ls) := fun he => Ch.with_yes (by omega) HA.out hkl he
      generalize hrr : (Ch.lkAt ls k).r = rr at *
      clear c1 c2 f1 f2 o1 o2 ne nr hp own
      by_cases h1 : rr < r
      · go_wp2
        go_roundw
        case rel => exact ⟨k + 1, by omega, by go_num, HNX.out h1, trivial⟩
        case measure => simp [intOf]; omega
      · by_cases h2 : rr = r
        · subst h2
          have HY := hid (HYES.out rfl)
          go_wp2
          exact bodyPost_ret (v := .tuple #[.slice (some ⟨o, 0, none⟩) n cap, .int .i64 k]) (by simp [results, Try.results90, go_sem]) rfl ⟨_, _, _, by rw [HY.out.1], by rw [HY.out.2]; exact ⟨vs, HOwn.out⟩, Below.refl _ _⟩
        · have HY := HINS (fun _ => by omega)
          clear HYES HNX HINS
          obtain ⟨oE, kE, lE⟩ := alloc_empty wr 83 3
          have hkc := HCap.out
          have hC1 := ((cells_take (owns_cells HOwn.out.row) (k := k * 3) (by omega)).below kE)
          have h1a : ∀ u ∈ (lcells ls vs).take (k * 3), u.oneCell' = true := fun u hu => h1x.out u (List.mem_of_mem_take hu)
          have h1b : ∀ u ∈ (lcells ls vs).drop (k * 3), u.oneCell' = true := fun u hu => h1x.out u (List.mem_of_mem_drop hu)
          have hs0 : 0 + k ≤ 4194304 := by omega
          have hs1 : k + 1 ≤ 4194304 := by omega
          have hs2 : k + 1 + (n - k) ≤ 4194304 := by omega
          go_wp2_with (first
            | (at_builtin
               refine wpList_appX Try.underlying24 Try.underlying24 hi0 hz0 hz1 hz2 rfl (by omega) (by omega) (.tmp 38) (.tmp 41) ?_ ?_ wr.heap.size (.slice (some ⟨wr.heap.size, 0, none⟩) 0 0) 0 [] (some ⟨o, 0, none⟩) k cap ((lcells ls vs).take (k * 3)) ?_ ?_ oE hC1 h1a hs0 kE.size ?_; exact rfl; exact rfl; exact rfl; exact rfl; intro a5 c5 w5 own5 gr5 at5
               simp only [Nat.zero_add, List.nil_append] at own5 ⊢
               have k5 : Below wr.heap.size wr w5 := kE.grown gr5 kE.size (fun g hg => (owns_lt oE g hg).1)
               clear gr5 at5 hC1 oE kE lE
               have kN : Below w5.heap.size w5 (w5.alloc (.cells #[.int .i64 r, .slice none 0 0, .slice none 0 0] 83)) := (Below.refl _ _).alloc (Nat.le_refl _) _
               have k6 := k5.trans (kN.mono k5.size))
            | (at_builtin
               refine wpList_appX Try.underlying24 Try.underlying24 hi0 hz0 hz1 hz2 rfl (by omega) (by omega) (.tmp 43) (.tmp 46) ?_ ?_ wr.heap.size (.slice a5 k c5) k ((lcells ls vs).take (k * 3)) _ 1 1 [.int .i64 r, .slice none 0 0, .slice none 0 0] ?_ ?_ (owns_below own5 kN) (new_lock w5 r none 0 0 none 0 0 _) (lock_one' r none 0 0 none 0 0) hs1 k6.size ?_; exact rfl; exact rfl; exact rfl; exact rfl; intro a7 c7 w7 own7 gr7 at7
               have k7 : Below wr.heap.size wr w7 := k6.grown gr7 k6.size (fun g hg => (owns_lt own5 g hg).1)
               clear gr7 at7 own5 k6 kN k5
               have hC2 := CellsAt.below (by have := cells_drop (owns_cells HOwn.out.row) (k := k * 3) (by omega); rw [Nat.zero_add, ← Nat.sub_mul] at this; exact this) k7)
            | (at_builtin
               refine wpList_appX Try.underlying24 Try.underlying24 hi0 hz0 hz1 hz2 rfl (by omega) (by omega) (.tmp 48) (.tmp 51) ?_ ?_ wr.heap.size (.slice a7 (k + 1) c7) (k + 1) _ (some ⟨o, k * 3, none⟩) (n - k) (cap - k) ((lcells ls vs).drop (k * 3)) ?_ ?_ own7 hC2 h1b hs2 k7.size ?_; exact rfl; exact rfl; exact rfl; exact rfl; intro a8 c8 w8 own8 gr8 at8
               have k8 : Below wr.heap.size wr w8 := k7.grown gr8 k7.size (fun g hg => (owns_lt own7 g hg).1)
               have en : k + 1 + (n - k) = n + 1 := by omega
               rw [en] at own8
               have hat8 : ∀ g, (Value.slice a8 (n + 1) c8).ownBlock = some g → wr.heap.size ≤ g := fun g hg => (owns_lt own8 g hg).1
               have ownI := hid (HOwn.out.ins hk (r := r) (owns_base own8 hB) (below_grown k8 _) (fun g hg => .inr (hat8 g hg)))
               have bI := hid (k8.mono hB)
               clear gr8 at8 own7 k7 hC2 own8 hat8 k8
               simp only [en]))
          exact bodyPost_ret (v := .tuple #[.slice a8 (n + 1) c8, .int .i64 k]) (by simp [results, Try.results90, go_sem]) rfl ⟨_, _, _, by rw [HY.out.1], by rw [HY.out.2]; exact ⟨_, ownI.out⟩, bI.out⟩
    · have HY := HINS (fun hh => by have := HL.out; omega)
      clear HINS
      clear own
      by_cases hck : cap = k
      · subst hck
        obtain rfl : n = cap := by have := HCap.out; omega
        obtain ⟨oE, kE, lE⟩ := alloc_empty wr 83 3
        have hkc := HCap.out
        have hC1 := ((cells_take (owns_cells HOwn.out.row) (k := n * 3) (by omega)).below kE)
        have h1a : ∀ u ∈ (lcells ls vs).take (n * 3), u.oneCell' = true := fun u hu => h1x.out u (List.mem_of_mem_take hu)
        have h1b : ∀ u ∈ (lcells ls vs).drop (n * 3), u.oneCell' = true := fun u hu => h1x.out u (List.mem_of_mem_drop hu)
        have hs0 : 0 + n ≤ 4194304 := by omega
        have hs1 : n + 1 ≤ 4194304 := by omega
        have hs2 : n + 1 + 0 ≤ 4194304 := by omega
        go_wp2_with (first
          | (at_builtin
             refine wpList_appX Try.underlying24 Try.underlying24 hi0 hz0 hz1 hz2 rfl (by omega) (by omega) (.tmp 38) (.tmp 41) ?_ ?_ wr.heap.size (.slice (some ⟨wr.heap.size, 0, none⟩) 0 0) 0 [] (some ⟨o, 0, none⟩) n n ((lcells ls vs).take (n * 3)) ?_ ?_ oE hC1 h1a hs0 kE.size ?_; exact rfl; exact rfl; exact rfl; exact rfl; intro a5 c5 w5 own5 gr5 at5
             simp only [Nat.zero_add, List.nil_append] at own5 ⊢
             have k5 : Below wr.heap.size wr w5 := kE.grown gr5 kE.size (fun g hg => (owns_lt oE g hg).1)
             clear gr5 at5 hC1 oE kE lE
             have kN : Below w5.heap.size w5 (w5.alloc (.cells #[.int .i64 r, .slice none 0 0, .slice none 0 0] 83)) := (Below.refl _ _).alloc (Nat.le_refl _) _
             have k6 := k5.trans (kN.mono k5.size))
          | (at_builtin
             refine wpList_appX Try.underlying24 Try.underlying24 hi0 hz0 hz1 hz2 rfl (by omega) (by omega) (.tmp 43) (.tmp 46) ?_ ?_ wr.heap.size (.slice a5 n c5) n ((lcells ls vs).take (n * 3)) _ 1 1 [.int .i64 r, .slice none 0 0, .slice none 0 0] ?_ ?_ (owns_below own5 kN) (new_lock w5 r none 0 0 none 0 0 _) (lock_one' r none 0 0 none 0 0) hs1 k6.size ?_; exact rfl; exact rfl; exact rfl; exact rfl; intro a7 c7 w7 own7 gr7 at7
             have k7 : Below wr.heap.size wr w7 := k6.grown gr7 k6.size (fun g hg => (owns_lt own5 g hg).1)
             clear gr7 at7 own5 k6 kN k5
             have hC2 := CellsAt.below (show CellsAt wr (some ⟨o, 0, none⟩) (0 * 3) ((lcells ls vs).drop (n * 3)) from ⟨by rw [List.length_drop, HOwn.out.row.1]; omega, fun h0 => by omega⟩) k7)
          | (at_builtin
             refine wpList_appX Try.underlying24 Try.underlying24 hi0 hz0 hz1 hz2 rfl (by omega) (by omega) (.tmp 48) (.tmp 51) ?_ ?_ wr.heap.size (.slice a7 (n + 1) c7) (n + 1) _ (some ⟨o, 0, none⟩) 0 0 ((lcells ls vs).drop (n * 3)) ?_ ?_ own7 hC2 h1b hs2 k7.size ?_; exact rfl; exact rfl; exact rfl; exact rfl; intro a8 c8 w8 own8 gr8 at8
             have k8 : Below wr.heap.size wr w8 := k7.grown gr8 k7.size (fun g hg => (owns_lt own7 g hg).1)
             have en : n + 1 + 0 = n + 1 := by omega
             rw [en] at own8
             have hat8 : ∀ g, (Value.slice a8 (n + 1) c8).ownBlock = some g → wr.heap.size ≤ g := fun g hg => (owns_lt own8 g hg).1
             have ownI := hid (HOwn.out.ins hk (r := r) (owns_base own8 hB) (below_grown k8 _) (fun g hg => .inr (hat8 g hg)))
             have bI := hid (k8.mono hB)
             clear gr8 at8 own7 k7 hC2 own8 hat8 k8
             simp only [en]))
        exact bodyPost_ret (v := .tuple #[.slice a8 (n + 1) c8, .int .i64 n]) (by simp [results, Try.results90, go_sem]) rfl ⟨_, _, _, by rw [HY.out.1], by rw [HY.out.2]; exact ⟨_, ownI.out⟩, bI.out⟩
      · skip
        obtain ⟨oE, kE, lE⟩ := alloc_empty wr 83 3
        have hkc := HCap.out
        have hC1 := ((cells_take (owns_cells HOwn.out.row) (k := k * 3) (by omega)).below kE)
        have h1a : ∀ u ∈ (lcells ls vs).take (k * 3), u.oneCell' = true := fun u hu => h1x.out u (List.mem_of_mem_take hu)
        have h1b : ∀ u ∈ (lcells ls vs).drop (k * 3), u.oneCell' = true := fun u hu => h1x.out u (List.mem_of_mem_drop hu)
        have hs0 : 0 + k ≤ 4194304 := by omega
        have hs1 : k + 1 ≤ 4194304 := by omega
        have hs2 : k + 1 + (n - k) ≤ 4194304 := by omega
        go_wp2_with (first
          | (at_builtin
             refine wpList_appX Try.underlying24 Try.underlying24 hi0 hz0 hz1 hz2 rfl (by omega) (by omega) (.tmp 38) (.tmp 41) ?_ ?_ wr.heap.size (.slice (some ⟨wr.heap.size, 0, none⟩) 0 0) 0 [] (some ⟨o, 0, none⟩) k cap ((lcells ls vs).take (k * 3)) ?_ ?_ oE hC1 h1a hs0 kE.size ?_; exact rfl; exact rfl; exact rfl; exact rfl; intro a5 c5 w5 own5 gr5 at5
             simp only [Nat.zero_add, List.nil_append] at own5 ⊢
             have k5 : Below wr.heap.size wr w5 := kE.grown gr5 kE.size (fun g hg => (owns_lt oE g hg).1)
             clear gr5 at5 hC1 oE kE lE
             have kN : Below w5.heap.size w5 (w5.alloc (.cells #[.int .i64 r, .slice none 0 0, .slice none 0 0] 83)) := (Below.refl _ _).alloc (Nat.le_refl _) _
             have k6 := k5.trans (kN.mono k5.size))
          | (at_builtin
             refine wpList_appX Try.underlying24 Try.underlying24 hi0 hz0 hz1 hz2 rfl (by omega) (by omega) (.tmp 43) (.tmp 46) ?_ ?_ wr.heap.size (.slice a5 k c5) k ((lcells ls vs).take (k * 3)) _ 1 1 [.int .i64 r, .slice none 0 0, .slice none 0 0] ?_ ?_ (owns_below own5 kN) (new_lock w5 r none 0 0 none 0 0 _) (lock_one' r none 0 0 none 0 0) hs1 k6.size ?_; exact rfl; exact rfl; exact rfl; exact rfl; intro a7 c7 w7 own7 gr7 at7
             have k7 : Below wr.heap.size wr w7 := k6.grown gr7 k6.size (fun g hg => (owns_lt own5 g hg).1)
             clear gr7 at7 own5 k6 kN k5
             have hC2 := CellsAt.below (by have := cells_drop (owns_cells HOwn.out.row) (k := k * 3) (by omega); rw [Nat.zero_add, ← Nat.sub_mul] at this; exact this) k7)
          | (at_builtin
             refine wpList_appX Try.underlying24 Try.underlying24 hi0 hz0 hz1 hz2 rfl (by omega) (by omega) (.tmp 48) (.tmp 51) ?_ ?_ wr.heap.size (.slice a7 (k + 1) c7) (k + 1) _ (some ⟨o, k * 3, none⟩) (n - k) (cap - k) ((lcells ls vs).drop (k * 3)) ?_ ?_ own7 hC2 h1b hs2 k7.size ?_; exact rfl; exact rfl; exact rfl; exact rfl; intro a8 c8 w8 own8 gr8 at8
             have k8 : Below wr.heap.size wr w8 := k7.grown gr8 k7.size (fun g hg => (owns_lt own7 g hg).1)
             have en : k + 1 + (n - k) = n + 1 := by omega
             rw [en] at own8
             have hat8 : ∀ g, (Value.slice a8 (n + 1) c8).ownBlock = some g → wr.heap.size ≤ g := fun g hg => (owns_lt own8 g hg).1
             have ownI := hid (HOwn.out.ins hk (r := r) (owns_base own8 hB) (below_grown k8 _) (fun g hg => .inr (hat8 g hg)))
             have bI := hid (k8.mono hB)
             clear gr8 at8 own7 k7 hC2 own8 hat8 k8
             simp only [en]))
        exact bodyPost_ret (v := .tuple #[.slice a8 (n + 1) c8, .int .i64 k]) (by simp [results, Try.results90, go_sem]) rfl ⟨_, _, _, by rw [HY.out.1], by rw [HY.out.2]; exact ⟨_, ownI.out⟩, bI.out⟩

end Go.Proofs.Yteblnejpohjjmaa
