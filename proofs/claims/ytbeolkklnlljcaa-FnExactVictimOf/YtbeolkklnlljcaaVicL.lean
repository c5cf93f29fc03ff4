/- The law FnExactVictimOf. -/
import Derived.Test.YtbeolkklnlljcaaVicY
namespace Go.Proofs.Ytbeolkklnlljcaa
open Go.RowKit

set_option maxHeartbeats 2000000 in
theorem lawVictim_any (a a2 : Option Addr) (n cap n2 cap2 : Nat) (cyc sys : List Int) (w : World) (h : CellsAt w a (n * 1) (icells cyc)) (h2 : CellsAt w a2 (n2 * 1) (icells sys)) (hw2 : IsW sys) (hm : n ≤ 9223372036854775807) (hm2 : n2 ≤ 9223372036854775807) :
    Calls Try.prog 11 #[.slice a n cap, .slice a2 n2 cap2] w fun e w' => e = .returned (.bool true) ∧ Below w.heap.size w w' := by
  by_cases hbig : 1048576 < n
  · go_enter Try.func11, Try.ntmps11
    go_wp2
    go_ret
    exact ⟨rfl, Below.refl _ _⟩
  have hn : n ≤ 1048576 := by omega
  clear hbig
  by_cases hbig : 1048576 < n2
  · go_enter Try.func11, Try.ntmps11
    go_wp2
    go_ret
    exact ⟨rfl, Below.refl _ _⟩
  have hn2 : n2 ≤ 1048576 := by omega
  clear hbig hm hm2
  have SI := fun (W : World) (A A2 : Option Addr) hW hW2 => specVictim_any A A2 n n n2 n2 cyc sys W hW hW2 hn hn2
  have II := fun (W : World) (A A2 : Option Addr) hW hW2 => implVictim_any A A2 n n n2 n2 cyc sys W hW hW2 hn hn2 hw2
  generalize (Ch.victimR cyc sys).1 = c at SI II
  generalize (Ch.victimR cyc sys).2 = v at SI II
  have HW := hid hw2
  clear hw2
  go_enter Try.func11, Try.ntmps11
  go_wp2_with fail
  refine (toInt64S_any a n cap cyc _ h hn).mono ?_
  rintro e w1 ⟨rfl, o1, b1⟩
  have z1 := b1.size
  have l1 := (owns_lt o1 _ rfl).2
  go_wp2_with fail
  refine (toInt64S_any a2 n2 cap2 sys _ (h2.below b1) hn2).mono ?_
  rintro e w2 ⟨rfl, o2, b2⟩
  have o1 := owns_below o1 b2
  have b2 := b1.trans (b2.mono b1.size)
  go_wp2_with fail
  refine (SI _ _ _ (owns_cells o1) (owns_cells o2)).mono ?_
  rintro e w3 ⟨rfl, b3⟩
  have b3 := b2.trans (b3.mono b2.size)
  clear b1 b2 o1 o2 l1 z1
  go_wp2_with fail
  refine (toInt64S_at (w3.heap.size + 1) a n cap cyc _ (by simp) (h.below (b3.alloc b3.size _)) hn).mono ?_
  rintro e w4 ⟨rfl, o4, b4⟩
  have x0 := box_cell b4 0
  have x1 := box_cell b4 1
  simp only [List.getElem?_toArray, List.getElem?_cons_zero, List.getElem?_cons_succ] at x0 x1
  have b4 := below_box b4
  have b4' := b3.trans (b4.mono b3.size)
  have l4 := (owns_lt o4 _ rfl).2
  clear b4 b3
  go_wp2_with fail
  refine (toInt64S_any a2 n2 cap2 sys _ (h2.below b4') hn2).mono ?_
  rintro e w5 ⟨rfl, o5, b5⟩
  have o4 := owns_below o4 b5
  have x0 := keep_cell b5 x0
  have x1 := keep_cell b5 x1
  have b5' := b4'.trans (b5.mono b4'.size)
  have l5 := (owns_lt o5 _ rfl).2
  clear b5 b4'
  go_wp2_with fail
  refine (II _ _ _ (owns_cells o4) (owns_cells o5)).mono ?_
  rintro e w6 ⟨rfl, b6⟩
  have kB := (Below.refl w6.heap.size w6).alloc (Nat.le_refl _) (.cells #[.int .i64 c, .int .i64 v] 32)
  have o4 := owns_below (owns_below o4 b6) kB
  have o5 := owns_below (owns_below o5 b6) kB
  have x0 := keep_cell b6 x0
  have x1 := keep_cell b6 x1
  have l0 := lt_of_cell x0
  have b6' := b5'.trans (b6.mono b5'.size)
  have b6' := b6'.alloc b6'.size (.cells #[.int .i64 c, .int .i64 v] 32)
  clear b5' b6 kB
  go_wp2_with fail
  refine (eqInt_same c v _).mono ?_
  rintro e w7 ⟨rfl, b7⟩
  have o4 := owns_below o4 b7
  have o5 := owns_below o5 b7
  have b7 := b6'.trans (b7.mono b6'.size)
  clear b6' x0 x1
  go_wp2_with fail
  refine (toInt64S_any a n cap cyc _ (h.below b7) hn).mono ?_
  rintro e w8 ⟨rfl, o8, b8⟩
  have o4 := owns_below o4 b8
  have o5 := owns_below o5 b8
  have b8 := b7.trans (b8.mono b7.size)
  go_wp2_with fail
  refine (eqInts_same _ _ n n n cyc _ (owns_cells o4) (owns_cells o8) (by omega)).mono ?_
  rintro e w9 ⟨rfl, b9⟩
  have o5 := owns_below o5 b9
  have b9 := b8.trans (b9.mono b8.size)
  clear o4 o8 b8 b7
  go_wp2_with fail
  refine (toInt64S_any a2 n2 cap2 sys _ (h2.below b9) hn2).mono ?_
  rintro e w10 ⟨rfl, o10, b10⟩
  have o5 := owns_below o5 b10
  have b10 := b9.trans (b10.mono b9.size)
  go_wp2_with fail
  refine (eqInts_same _ _ n2 n2 n2 sys _ (owns_cells o5) (owns_cells o10) (by omega)).mono ?_
  rintro e w11 ⟨rfl, b11⟩
  go_wp2
  go_ret
  exact ⟨rfl, b10.trans (b11.mono b10.size)⟩
end Go.Proofs.Ytbeolkklnlljcaa
