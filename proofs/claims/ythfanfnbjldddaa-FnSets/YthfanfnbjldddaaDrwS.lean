
/- The draw of FnSets (and FnIndexes). -/
import Derived.Test.YthfanfnbjldddaaDrawY
namespace Go.Proofs.Ythfanfnbjldddaa
open Go.RowKit

set_option linter.unusedSimpArgs false in
set_option maxRecDepth 100000 in
set_option maxHeartbeats 4000000 in
theorem drawSet_any (a : Option Addr) (n cap : Nat) (zs : List Int) (w : World) (h : CellsAt w a n (bts zs)) (hb : IsB zs) (hn : n ≤ 1048576) :
    Calls Try.prog 12 #[.slice a n cap] w fun e w' => ∃ ls a' m c' tx key has v, Ch.bentLv ls ∧ e = .returned (.tuple #[.slice a' m c', .int .i64 tx, .int .i64 key, .bool has, .int .i64 v]) ∧ OwnLv w' w.heap.size (.slice a' m c') m ls ∧ Below w.heap.size w w' := by
  go_enter Try.func12, Try.ntmps12
  go_wp2_with fail
  refine (l3With_any a n cap zs _ h hb hn).mono ?_
  rintro e w1 ⟨ls, a1, m, c1, key, hbe, rfl, o1, b1⟩
  have hc1 := h.below b1
  have own0 : (w1.alloc (.cells #[.int .u8 3] 5)).ownsRow w1.heap.size 5 1 (.slice (some ⟨w1.heap.size, 0, none⟩) 1 1) 1 [.int .u8 3] := World.ownsRow_lit w1 #[.int .u8 3] 1 (Nat.le_refl _) (by unfold maxLen; omega) rfl
  have bL : Below w1.heap.size w1 (w1.alloc (.cells #[.int .u8 3] 5)) := (Below.refl _ _).alloc (Nat.le_refl _) _
  have hcL := hc1.below bL
  have hsum : 1 + n ≤ 1099511627776 := by omega
  go_wp2_with (at_builtin; go_must (refine wpList_appOy (.tmp 17) (.tmp 18) w1.heap.size w1.heap.size 1 1 [.int .u8 3] a n cap zs hsum ?_ ?_ ?_ ?_ ?_ ?_ ?_ ?_; exact rfl; exact rfl; exact rfl; exact rfl; exact hcL; exact own0; (focus (simp; done)); intro a2 c2 w2 own2 b2))
  have B2 := bL.trans b2
  have hz2 := B2.size
  have hcs : CellsAt w2 a2 (1 + n) (bts (3 :: zs)) := by
    have := owns_cells own2
    rw [Nat.mul_one] at this
    simpa [bts] using this
  have hb3 : IsB (3 :: zs) := by
    intro i
    cases i with
    | zero => simp
    | succ i => simpa using hb i
  have O2 := o1.below B2
  have bE2 := b1.trans (B2.mono b1.size)
  clear own0 bL hcL b2 own2 hc1 B2 b1 o1
  refine (source_any a2 (1 + n) c2 (3 :: zs) w2 hcs).mono ?_
  rintro e w3 ⟨rfl, S3, b3⟩
  have hz3 := S3.lt
  go_wp2_with fail
  refine (chance_any 2 w2.heap.size a2 (1 + n) c2 0 (3 :: zs) w3 S3 hb3 (by omega) (by omega) (by omega) (by omega)).mono ?_
  rintro e w4 ⟨⟨has, rfl⟩, S4, G4⟩
  have hz4 := G4.size
  have B4 := b3.trans (below_gr (B := w2.heap.size) G4 (Nat.le_refl _) (by omega))
  clear S3 b3 G4
  cases has
  · go_wp2_with fail
    refine (chance_any 8 w2.heap.size a2 (1 + n) c2 1 (3 :: zs) w4 S4 hb3 (by omega) (by omega) (by omega) (by omega)).mono ?_
    rintro e w5 ⟨⟨may, rfl⟩, S5, G5⟩
    have hz5 := G5.size
    have B5 := B4.trans (below_gr (B := w2.heap.size) G5 (Nat.le_refl _) (by omega))
    clear S4 B4 G5
    cases may
    · go_wp2_with fail
      refine (pick_any w5.heap.size 4 [1, 2, 3, 0] w2.heap.size a2 (1 + n) c2 2 (3 :: zs) _ S5.new hb3 (by omega) (by omega) (heap_alloc_new w5 _) (by omega) rfl (by omega) (by omega)).mono ?_
      rintro e w9 ⟨⟨tx, _, rfl⟩, S9, G9⟩
      have B9 : Below w2.heap.size w5 w9 := ((Below.refl _ _).alloc (by omega) _).trans (below_gr (B := w2.heap.size) G9 (Nat.le_refl _) (by simp; omega))
      have B10 := B5.trans B9
      go_wp2
      exact bodyPost_ret (v := .tuple #[.slice a1 m c1, .int .i64 tx, .int .i64 key, .bool false, .int .i64 0]) (by simp [results, Try.results12, go_sem]) rfl ⟨ls, a1, m, c1, tx, key, false, 0, hbe, rfl, O2.below B10, bE2.trans (B10.mono bE2.size)⟩
    · go_wp2_with fail
      refine (next_any 50 w2.heap.size a2 (1 + n) c2 2 (3 :: zs) w5 S5 hb3 (by omega) (by omega) (by omega) (by omega)).mono ?_
      rintro e w6 ⟨⟨d, _, _, rfl⟩, S6, G6⟩
      have hz6 := G6.size
      have B6 := B5.trans (below_gr (B := w2.heap.size) G6 (Nat.le_refl _) (by omega))
      clear S5 B5 G6
      go_wp2_with fail
      refine (next_any 50 w2.heap.size a2 (1 + n) c2 3 (3 :: zs) w6 S6 hb3 (by omega) (by omega) (by omega) (by omega)).mono ?_
      rintro e w7 ⟨⟨d', _, _, rfl⟩, S7, G7⟩
      have hz7 := G7.size
      have B7 := B6.trans (below_gr (B := w2.heap.size) G7 (Nat.le_refl _) (by omega))
      clear S6 B6 G7
      go_wp2_with fail
      refine (pick_any w7.heap.size 3 [d, d', 10000] w2.heap.size a2 (1 + n) c2 4 (3 :: zs) _ S7.new hb3 (by omega) (by omega) (heap_alloc_new w7 _) (by omega) rfl (by omega) (by omega)).mono ?_
      rintro e w8 ⟨⟨v, _, rfl⟩, S8, G8⟩
      have hz8 := G8.size
      simp at hz8
      have B8 := (B7.alloc B7.size (.cells #[.int .i64 d, .int .i64 d', .int .i64 10000] 2)).trans (below_gr (B := w2.heap.size) G8 (Nat.le_refl _) (by simp; omega))
      clear S7 B7 G8
      go_wp2_with fail
      refine (pick_any w8.heap.size 4 [1, 2, 3, 0] w2.heap.size a2 (1 + n) c2 5 (3 :: zs) _ S8.new hb3 (by omega) (by omega) (heap_alloc_new w8 _) (by omega) rfl (by omega) (by omega)).mono ?_
      rintro e w9 ⟨⟨tx, _, rfl⟩, S9, G9⟩
      have B9 : Below w2.heap.size w8 w9 := ((Below.refl _ _).alloc (by omega) _).trans (below_gr (B := w2.heap.size) G9 (Nat.le_refl _) (by simp; omega))
      have B10 := B8.trans B9
      go_wp2
      exact bodyPost_ret (v := .tuple #[.slice a1 m c1, .int .i64 tx, .int .i64 key, .bool false, .int .i64 v]) (by simp [results, Try.results12, go_sem]) rfl ⟨ls, a1, m, c1, tx, key, false, v, hbe, rfl, O2.below B10, bE2.trans (B10.mono bE2.size)⟩
  · go_wp2_with fail
    refine (next_any 50 w2.heap.size a2 (1 + n) c2 1 (3 :: zs) w4 S4 hb3 (by omega) (by omega) (by omega) (by omega)).mono ?_
    rintro e w6 ⟨⟨d, _, _, rfl⟩, S6, G6⟩
    have hz6 := G6.size
    have B6 := B4.trans (below_gr (B := w2.heap.size) G6 (Nat.le_refl _) (by omega))
    clear S4 B4 G6
    go_wp2_with fail
    refine (next_any 50 w2.heap.size a2 (1 + n) c2 2 (3 :: zs) w6 S6 hb3 (by omega) (by omega) (by omega) (by omega)).mono ?_
    rintro e w7 ⟨⟨d', _, _, rfl⟩, S7, G7⟩
    have hz7 := G7.size
    have B7 := B6.trans (below_gr (B := w2.heap.size) G7 (Nat.le_refl _) (by omega))
    clear S6 B6 G7
    go_wp2_with fail
    refine (pick_any w7.heap.size 3 [d, d', 10000] w2.heap.size a2 (1 + n) c2 3 (3 :: zs) _ S7.new hb3 (by omega) (by omega) (heap_alloc_new w7 _) (by omega) rfl (by omega) (by omega)).mono ?_
    rintro e w8 ⟨⟨v, _, rfl⟩, S8, G8⟩
    have hz8 := G8.size
    simp at hz8
    have B8 := (B7.alloc B7.size (.cells #[.int .i64 d, .int .i64 d', .int .i64 10000] 2)).trans (below_gr (B := w2.heap.size) G8 (Nat.le_refl _) (by simp; omega))
    clear S7 B7 G8
    go_wp2_with fail
    refine (pick_any w8.heap.size 4 [1, 2, 3, 0] w2.heap.size a2 (1 + n) c2 4 (3 :: zs) _ S8.new hb3 (by omega) (by omega) (heap_alloc_new w8 _) (by omega) rfl (by omega) (by omega)).mono ?_
    rintro e w9 ⟨⟨tx, _, rfl⟩, S9, G9⟩
    have B9 : Below w2.heap.size w8 w9 := ((Below.refl _ _).alloc (by omega) _).trans (below_gr (B := w2.heap.size) G9 (Nat.le_refl _) (by simp; omega))
    have B10 := B8.trans B9
    go_wp2
    exact bodyPost_ret (v := .tuple #[.slice a1 m c1, .int .i64 tx, .int .i64 key, .bool true, .int .i64 v]) (by simp [results, Try.results12, go_sem]) rfl ⟨ls, a1, m, c1, tx, key, true, v, hbe, rfl, O2.below B10, bE2.trans (B10.mono bE2.size)⟩
end Go.Proofs.Ythfanfnbjldddaa
