/- DrawVictimOf, and plain facts on who gives way (the law FnVictims). -/
import Derived.Test.YtbeolkklnlljcaaVicY
import Derived.Test.YtbeolkklnlljcaaLkJ
namespace Go.Proofs.Ytbeolkklnlljcaa
open Go.RowKit

theorem own_drew {w w' : World} {s base : Nat} {e : TypeId} {size : Nat} {v : Value} {n : Nat} {xs : List Value} (h : w.ownsRow base e size v n xs) (hg : w.grownBy w' (some s)) (hs : s < base) : w'.ownsRow base e size v n xs :=
  owns_grown h hg (fun g hv hk => by have := (owns_lt h g hv).1; cases hk; omega)
theorem below_drew {w w' w'' : World} {s B : Nat} (h : Below B w w') (hg : w'.grownBy w'' (some s)) (hs : B ≤ s) (hB : B ≤ w'.heap.size) : Below B w w'' := h.grown hg hB (fun j hj => by cases hj; exact hs)

/-- What DrawVictimOf answers. -/
def VicDrawn (w : World) (e : Ending) (w' : World) : Prop := ∃ a1 m1 c1 cyc a2 m2 c2 sys, e = .returned (.tuple #[.slice a1 m1 c1, .slice a2 m2 c2]) ∧ m1 ≤ 4 ∧ m2 ≤ 4 ∧ CellsAt w' a1 (m1 * 1) (icells cyc) ∧ CellsAt w' a2 (m2 * 1) (icells sys) ∧ IsW sys ∧ Below w.heap.size w w'

set_option maxHeartbeats 4000000 in
theorem drawVictim_any (a : Option Addr) (n cap : Nat) (zs : List Int) (w : World) (h : CellsAt w a n (bts zs)) (hb : IsB zs) (hn : n ≤ 1048580) :
    Calls Try.prog 36 #[.slice a n cap] w fun e w' => VicDrawn w e w' := by
  obtain ⟨i0, hi0, hz0, hz1, hz2⟩ := info_parts Try.info2
  have HB := hid hb
  clear hb
  go_enter Try.func36, Try.ntmps36
  go_wp2_with fail
  refine (source_any a n cap zs w h).mono ?_
  rintro e w1 ⟨rfl, s1, b1⟩
  obtain ⟨S, hS⟩ : ∃ S, w.heap.size = S := ⟨_, rfl⟩
  rw [hS] at s1 b1
  have ls1 := s1.lt
  have oE := empty_own w1 (S + 1) 2 1 (by omega)
  have s1e := s1.new (o := .cells #[] 2)
  have b1e := b1.alloc (by omega) (.cells #[] 2)
  go_wp2_with fail
  refine (next_any 5 S a n cap 0 zs _ s1e HB.out hn (by decide) (by decide) (by decide)).mono ?_
  rintro e w2 ⟨⟨v, v0, v5, rfl⟩, s2, g2⟩
  have o2 := own_drew oE g2 (by omega)
  have b2 := below_drew b1e g2 (Nat.le_refl _) (by simp; omega)
  clear g2 oE s1 s1e b1 b1e ls1
  go_wp2_with fail
  go_loopw [5, 6] (fun q i wr => ∃ (kk : Int) (m d : Nat) (a' : Option Addr) (c' : Nat) (ys : List Int), 0 ≤ kk ∧ kk + m ≤ 4 ∧ (d : Int) + 4 * kk ≤ 20 ∧ i = .int .i64 kk ∧ q = .slice a' m c' ∧ wr.ownsRow (S + 1) 2 1 (.slice a' m c') m (icells ys) ∧ Src wr S a n cap d zs ∧ Below S w wr) (fun _ i _ => (intOf i).toNat)
  case atStart => exact ⟨v, 0, 1, _, 0, [], v0, by omega, by omega, rfl, rfl, o2, s2, b2⟩
  case round =>
    clear o2 s2 b2 v0 v5
    obtain ⟨kk, m, d, a', c', ys, hk0, hk4, hd, rfl, rfl, own, src, hB⟩ := hrel
    have hdl : d ≤ 20 := by omega
    have lS := src.lt
    by_cases hlt : 0 < kk
    · have hsum : m + 1 ≤ 4194304 := by omega
      go_wp2_with fail
      refine (next_any 6 S a n cap d zs _ src HB.out hn (by omega) (by decide) (by decide)).mono ?_
      rintro e u1 ⟨⟨x1, x10, x16, rfl⟩, s1, g1⟩
      have own := own_drew own g1 (by omega)
      have hB := below_drew hB g1 (Nat.le_refl _) (by omega)
      have lS := s1.lt
      clear g1 src
      go_wp2_with fail
      refine (next_any 6 S a n cap (d + 1) zs _ s1 HB.out hn (by omega) (by decide) (by decide)).mono ?_
      rintro e u2 ⟨⟨x2, x20, x26, rfl⟩, s2, g2⟩
      have own := own_drew own g2 (by omega)
      have hB := below_drew hB g2 (Nat.le_refl _) (by omega)
      have lS := s2.lt
      clear g2 s1
      go_wp2_with fail
      refine (next_any 6 S a n cap (d + 1 + 1) zs _ s2 HB.out hn (by omega) (by decide) (by decide)).mono ?_
      rintro e u3 ⟨⟨x3, x30, x36, rfl⟩, s3, g3⟩
      have own := own_drew own g3 (by omega)
      have hB := below_drew hB g3 (Nat.le_refl _) (by omega)
      have lS := s3.lt
      clear g3 s2
      go_wp2_with fail
      refine (pick_any u3.heap.size 4 [1 + x1, 1 + x2, 1 + x3, 0] S a n cap (d + 1 + 1 + 1) zs _ s3.new HB.out hn (by omega) (heap_alloc_new u3 _) (by omega) rfl (by decide) (by decide)).mono ?_
      rintro e u4 ⟨⟨x4, x4m, rfl⟩, s4, g4⟩
      have own := own_drew (own.alloc _) g4 (by omega)
      have hB := below_drew (hB.alloc (by omega) _) g4 (Nat.le_refl _) (by simp; omega)
      have lS := s4.lt
      clear g4 s3 x4m
      have kQ : Below u4.heap.size u4 (u4.alloc (.cells #[.int .i64 x4] 2)) := (Below.refl _ _).alloc (Nat.le_refl _) _
      have own3 := owns_below own kQ
      have hb3 : S + 1 ≤ (u4.alloc (.cells #[.int .i64 x4] 2)).heap.size := by simp; omega
      go_wp2_with (at_builtin; go_must (refine wpList_appX Try.underlying27 Try.underlying27 hi0 hz0 hz1 hz2 rfl (by omega) (by omega) (.tmp 18) (.tmp 31) ?_ ?_ (S + 1) (.slice a' m c') m (icells ys) _ 1 1 (icells [x4]) ?_ ?_ own3 (new_int u4 x4 2) (icells_one' [x4]) hsum hb3 ?_; exact rfl; exact rfl; exact rfl; exact rfl; intro a5 c5 w5 own5 gr5 at5))
      go_roundw
      case rel =>
        rw [← icells_append] at own5
        have b5 := (hB.alloc (by omega) (.cells #[.int .i64 x4] 2)).grown gr5 (by simp; omega) (fun g hg => by have := (owns_lt own3 g hg).1; omega)
        refine ⟨kk - 1, m + 1, d + 1 + 1 + 1 + 1, a5, c5, _, by omega, by omega, by omega, by go_num, rfl, own5, s4.new.grown gr5 (fun r hr => by have := (owns_lt own3 r hr).1; omega), b5⟩
      case measure => simp [intOf]; omega
    · obtain rfl : kk = 0 := by omega
      have s3 := src.new (o := .cells #[] 2)
      have oE := empty_own wr (wr.heap.size) 2 1 (Nat.le_refl _)
      have lown := owns_lt own
      have own0 := own.alloc (.cells #[] 2)
      have hB0 := hB.alloc (by omega) (.cells #[] 2)
      obtain ⟨V, hV⟩ : ∃ V, wr.heap.size = V := ⟨_, rfl⟩
      rw [hV] at oE
      clear own hB src
      go_wp2_with fail
      refine (next_any 3 S a n cap d zs _ s3 HB.out hn (by omega) (by decide) (by decide)).mono ?_
      rintro e u1 ⟨⟨x1, x10, x13, rfl⟩, s1, g1⟩
      have oE := own_drew oE g1 (by omega)
      have own1 := own_drew own0 g1 (by omega)
      have cyc1 := owns_cells own1
      have hB1 := below_drew hB0 g1 (Nat.le_refl _) (by simp; omega)
      clear g1 s3 own0 hB0
      go_wp2_with fail
      go_loopw [7, 8] (fun q i wx => ∃ (jj : Int) (m2 d2 : Nat) (a2 : Option Addr) (c2 : Nat) (sy : List Int), 0 ≤ jj ∧ jj + m2 ≤ 4 ∧ (d2 : Int) + 4 * jj ≤ 60 ∧ i = .int .i64 jj ∧ q = .slice a2 m2 c2 ∧ wx.ownsRow V 2 1 (.slice a2 m2 c2) m2 (icells sy) ∧ wx.ownsRow (S + 1) 2 1 (.slice a' m c') m (icells ys) ∧ V ≤ wx.heap.size ∧ IsW sy ∧ Src wx S a n cap d2 zs ∧ Below S w wx) (fun _ i _ => (intOf i).toNat)
      case atStart => exact ⟨x1, 0, d + 1, _, 0, [], x10, by omega, by omega, rfl, rfl, oE, own1, by have := owns_lt oE _ rfl; omega, (fun z hz => by simp at hz), s1, hB1⟩
      case round =>
        clear oE own1 cyc1 s1 hB1
        obtain ⟨jj, m2, d2, a2, c2, sy, hj0, hj4, hd2, rfl, rfl, own2, own1, hVx, hw, src, hB⟩ := hrel
        have HW := hid hw
        clear hw
        have lS := src.lt
        by_cases hlt2 : 0 < jj
        · have hsum : m2 + 1 ≤ 4194304 := by omega
          go_wp2_with fail
          refine (next_any 6 S a n cap d2 zs _ src HB.out hn (by omega) (by decide) (by decide)).mono ?_
          rintro e u3 ⟨⟨y1, y10, y16, rfl⟩, s3, g3⟩
          have own2 := own_drew own2 g3 (by omega)
          have own1 := own_drew own1 g3 (by omega)
          have hVx := Nat.le_trans hVx g3.size
          have hB := below_drew hB g3 (Nat.le_refl _) (by omega)
          have lS := s3.lt
          clear g3 src
          have kQ : Below u3.heap.size u3 (u3.alloc (.cells #[.int .i64 (1 + y1)] 2)) := (Below.refl _ _).alloc (Nat.le_refl _) _
          have own3 := owns_below own2 kQ
          have own13 := owns_below own1 kQ
          have hb3 : V ≤ (u3.alloc (.cells #[.int .i64 (1 + y1)] 2)).heap.size := by simp; omega
          go_wp2_with (at_builtin; go_must (refine wpList_appX Try.underlying27 Try.underlying27 hi0 hz0 hz1 hz2 rfl (by omega) (by omega) (.tmp 40) (.tmp 44) ?_ ?_ V (.slice a2 m2 c2) m2 (icells sy) _ 1 1 (icells [1 + y1]) ?_ ?_ own3 (new_int u3 (1 + y1) 2) (icells_one' [1 + y1]) hsum hb3 ?_; exact rfl; exact rfl; exact rfl; exact rfl; intro a5 c5 w5 own5 gr5 at5))
          go_roundw
          case rel =>
            rw [← icells_append] at own5
            have b5 := (hB.alloc (by omega) (.cells #[.int .i64 (1 + y1)] 2)).grown gr5 (by simp; omega) (fun g hg => by have := (owns_lt own3 g hg).1; omega)
            refine ⟨jj - 1, m2 + 1, d2 + 1, a5, c5, _, by omega, by omega, by omega, by go_num, rfl, own5, owns_grown own13 gr5 (fun g hg hk => by have := lown g hg; have := (owns_lt own3 g hk).1; omega), Nat.le_trans hb3 gr5.size, fun z hz => ?_, s3.new.grown gr5 (fun r hr => by have := (owns_lt own3 r hr).1; omega), b5⟩
            rcases List.mem_append.1 hz with hz | hz
            · exact HW.out z hz
            · rw [List.mem_singleton.1 hz]; omega
          case measure => simp [intOf]; omega
        · obtain rfl : jj = 0 := by omega
          go_wp2
          exact bodyPost_ret (v := .tuple #[.slice a' m c', .slice a2 m2 c2]) (by simp [results, Try.results36, go_sem]) rfl ⟨a', m, c', ys, a2, m2, c2, sy, rfl, by omega, by omega, owns_cells own1, owns_cells own2, HW.out, hS ▸ hB⟩
end Go.Proofs.Ytbeolkklnlljcaa
