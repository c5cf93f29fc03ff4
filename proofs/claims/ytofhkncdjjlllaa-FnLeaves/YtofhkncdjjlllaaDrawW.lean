
/- Leaves and a place drawn. -/
import Derived.Test.YtofhkncdjjlllaaDrawB
namespace Go.Proofs.Ytofhkncdjjlllaa
open Go.RowKit

theorem max_any (x y : Int) (w : World) : Calls Try.prog 121 #[.int .i64 x, .int .i64 y] w fun e w' => e = .returned (.int .i64 (max x y)) ∧ w' = w := by
  by_cases h : x > y
  · rw [show max x y = x by omega]
    go_enter Try.func121, Try.ntmps121
    go_wp2
    go_ret
    exact ⟨rfl, rfl⟩
  · rw [show max x y = y by omega]
    go_enter Try.func121, Try.ntmps121
    go_wp2
    go_ret
    exact ⟨rfl, rfl⟩

set_option maxHeartbeats 2000000 in
theorem l4With_any (a : Option Addr) (n cap : Nat) (zs : List Int) (w : World) (h : CellsAt w a n (bts zs)) (hb : IsB zs) (hn : n ≤ 1048576) :
    Calls Try.prog 76 #[.slice a n cap] w fun e w' => ∃ ls a' m c' at_, Ch.bentLv ls ∧ e = .returned (.tuple #[.slice a' m c', .int .i64 at_]) ∧ OwnLv w' w.heap.size (.slice a' m c') m ls ∧ Below w.heap.size w w' := by
  go_enter Try.func76, Try.ntmps76
  go_wp2_with fail
  refine (source_any a n cap zs w h).mono ?_
  rintro e w1 ⟨rfl, S1, b1⟩
  have hz1 := S1.lt
  go_wp2_with fail
  refine (l3Bent_any w.heap.size a n cap 0 zs w1 S1 hb (by omega) (by omega)).mono ?_
  rintro e w2 ⟨ls, a2, m, c2, k2, hbe, rfl, o2, hk2, S2, G2⟩
  have hm : m ≤ 70 := by have := o2.1; have := hbe.2.1; omega
  obtain ⟨N, hN⟩ : ∃ N : Int, max 1 (m : Int) = N := ⟨_, rfl⟩
  have hN1 : 1 ≤ N ∧ N ≤ 70 := by omega
  have MX := fun W => max_any 1 (m : Int) W
  rw [hN] at MX
  clear hN
  have hz2 := G2.size
  go_wp2_with fail
  refine (MX _).mono ?_
  rintro e w3 ⟨rfl, rfl⟩
  go_wp2_with fail
  refine (next_any N w.heap.size a n cap k2 zs _ S2 hb (by omega) (by omega) hN1.1 (by omega)).mono ?_
  rintro e w4 ⟨⟨v4, v40, v41, rfl⟩, S4, G4⟩
  go_wp2_with fail
  refine (MX _).mono ?_
  rintro e w5 ⟨rfl, rfl⟩
  go_wp2_with fail
  refine (next_any N w.heap.size a n cap (k2 + 1) zs _ S4 hb (by omega) (by omega) hN1.1 (by omega)).mono ?_
  rintro e w6 ⟨⟨v6, v60, v61, rfl⟩, S6, G6⟩
  have G := gr_trans (gr_trans G2 G4) G6
  have hz6 := G.size
  have G46 := gr_trans G4 G6
  go_wp2_with fail
  refine (pick_any w6.heap.size 4 [v4, v6, (m : Int) - 1, -1] w.heap.size a n cap (k2 + 1 + 1) zs _ S6.new hb (by omega) (by omega) (heap_alloc_new w6 _) (by omega) rfl (by omega) (by omega)).mono ?_
  rintro e w7 ⟨⟨v7, _, rfl⟩, S7, G7⟩
  have G67 := gr_trans G46 (gr_alloc G7)
  go_wp2
  exact bodyPost_ret (v := .tuple #[.slice a2 m c2, .int .i64 v7]) (by simp [results, Try.results76, go_sem]) rfl ⟨ls, a2, m, c2, v7, hbe, rfl, (o2.grown G67 hz1).base (by omega), b1.trans (below_gr (gr_trans G2 G67) (Nat.le_refl _) (by omega))⟩

set_option maxHeartbeats 800000 in
theorem drawMerge_any (a : Option Addr) (n cap : Nat) (zs : List Int) (w : World) (h : CellsAt w a n (bts zs)) (hb : IsB zs) (hn : n ≤ 1048576) :
    Calls Try.prog 27 #[.slice a n cap] w fun e w' => ∃ ls a' m c' at_, Ch.bentLv ls ∧ e = .returned (.tuple #[.slice a' m c', .int .i64 at_]) ∧ OwnLv w' w.heap.size (.slice a' m c') m ls ∧ Below w.heap.size w w' := by
  go_enter Try.func27, Try.ntmps27
  go_wp2_with fail
  refine (l4With_any a n cap zs w h hb hn).mono ?_
  rintro e w1 ⟨ls, a1, m, c1, v, hbe, rfl, o1, b1⟩
  go_wp2
  exact bodyPost_ret (v := .tuple #[.slice a1 m c1, .int .i64 v]) (by simp [results, Try.results27, go_sem]) rfl ⟨ls, a1, m, c1, v, hbe, rfl, o1, b1⟩
end Go.Proofs.Ytofhkncdjjlllaa
