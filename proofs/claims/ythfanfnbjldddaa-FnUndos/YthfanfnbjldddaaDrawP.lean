
/- The draws of rows and of a page: any few rows. -/
import Derived.Test.YthfanfnbjldddaaDrawN
namespace Go.Proofs.Ythfanfnbjldddaa
open Go.RowKit

theorem rows_some {w : World} {B m cp : Nat} {a : Option Addr} {xs : List Value} (h : w.ownsRow B 105 3 (.slice a (m + 1) cp) (m + 1) xs) : ∃ g, a = some ⟨g, 0, none⟩ := by
  rcases h.2 with ⟨_, h0⟩ | ⟨g', cp', cur, hv, _⟩
  · omega
  · simp only [Value.slice.injEq] at hv
    exact ⟨g', hv.1⟩

set_option maxHeartbeats 2000000 in
theorem rows_any (m : Nat) (s : Nat) (a : Option Addr) (n cap k : Nat) (zs : List Int) (w : World) (h : Src w s a n cap k zs) (hb : IsB zs) (hn : n ≤ 1048580) (hk : k ≤ 500) (hm : m ≤ 5) :
    Calls Try.prog 152 #[.pointer (some ⟨s, 0, none⟩), .int .i64 m] w fun e w' => (∃ g cp, e = .returned (.slice (some ⟨g, 0, none⟩) m cp) ∧ ∃ rs, w'.ownsRow w.heap.size 105 3 (.slice (some ⟨g, 0, none⟩) m cp) m (rcells rs)) ∧ (∃ k', k' ≤ k + 21 ∧ Src w' s a n cap k' zs) ∧ w.grownBy w' (some s) := by
  have hlt := h.lt
  go_enter Try.func152, Try.ntmps152
  go_wp2_with fail
  refine (next_any 5 s a n cap k zs _ h.new hb hn (by omega) (by omega) (by omega)).mono ?_
  rintro e w1 ⟨⟨x, x0, x1, rfl⟩, s1, g1⟩
  have own0 : (w.alloc (.cells #[] 105)).ownsRow w.heap.size 105 3 (.slice (some ⟨w.heap.size, 0, none⟩) 0 0) 0 (rcells []) := World.ownsRow_lit w #[] 0 (Nat.le_refl _) (by unfold maxLen; omega) rfl
  have own1 := owns_grown own0 g1 (fun g hg => by simp [Value.ownBlock] at hg; simp; omega)
  have g1' := gr_alloc g1
  clear g1 own0
  go_wp2_with fail
  go_loopw [1, 5, 6] (fun mv v t wr => ∃ (j r g cp : Nat) (x : Int) (rs : List Ch.Row), j + r = m ∧ mv = .int .i64 r ∧ v = .slice (some ⟨g, 0, none⟩) j cp ∧ t = .int .i64 x ∧ 0 ≤ x ∧ x ≤ 4 + 5 * j ∧
    wr.ownsRow w.heap.size 105 3 (.slice (some ⟨g, 0, none⟩) j cp) j (rcells rs) ∧ Src wr s a n cap (k + 1 + 4 * j) zs ∧ w.grownBy wr (some s)) (fun mv _ _ _ => (intOf mv).toNat)
  case atStart => exact ⟨0, m, _, _, x, [], by omega, rfl, rfl, rfl, x0, by omega, own1, s1, g1'⟩
  case round =>
    obtain ⟨j, r, g, cp, x, rs, hjr, rfl, rfl, rfl, x0, x1, own, sr, gr⟩ := hrel
    by_cases hr : 0 < r
    · have gB := owns_bounds own
      have hi : (0 : Int) < (r : Int) := by omega
      go_wp2_with fail
      refine (l1Row_any s a n cap _ zs _ sr hb hn (by omega)).mono ?_
      rintro e w2 ⟨⟨rk, rv, rg⟩, k2, _, _, _, rfl, rfl, s2, g2⟩
      have own2 := owns_grown own g2 (fun g' hg => by simp [Value.ownBlock] at hg; simp; omega)
      have gr2 := gr_trans gr g2
      have z2 := g2.size
      have z0 := gr.size
      simp only
      go_wp2_with fail
      refine (next_any 5 s a n cap _ zs _ s2.new hb hn (by omega) (by omega) (by omega)).mono ?_
      rintro e w3 ⟨⟨y, y0, y1, rfl⟩, s3, g3⟩
      have own3 := owns_grown (own2.alloc _) g3 (fun g' hg => by simp [Value.ownBlock] at hg; simp; omega)
      have p := gr_heap g3 (heap_alloc_new w2 _) (by simp; omega)
      have gr3 := gr_trans gr2 (gr_alloc g3)
      have z3 := g3.size
      simp at z3
      have p0 : w3.cell? ⟨w2.heap.size, 0, none⟩ = _ := cell_of_row _ _ _ _ _ _ p
      have p1 : w3.cell? ⟨w2.heap.size, 1, none⟩ = _ := cell_of_row _ _ _ _ _ _ p
      have p2 : w3.cell? ⟨w2.heap.size, 2, none⟩ = _ := cell_of_row _ _ _ _ _ _ p
      simp at p0 p1 p2
      clear p g3 g2 own own2 sr gr
      simp only
      obtain ⟨g0, hg0⟩ : ∃ g0, g0 = w3.heap.size := ⟨_, rfl⟩
      clear hg0
      go_wp2_with (at_builtin; go_must (refine wpList_appRs (.tmp 24) (.tmp 26) w.heap.size (.slice (some ⟨g, 0, none⟩) j cp) j rs 1 [⟨x, rv, rg⟩] (by omega) ?_ ?_ ?_ ?_ ?_ ?_ ?_; exact rfl; exact rfl; exact rfl; exact ⟨_, _, rfl, new_row (r := ⟨x, rv, rg⟩) rfl⟩; exact own3.alloc _; (focus (simp; omega)); intro a4 c4 w4 own4 b4))
      go_roundw
      case rel =>
        obtain ⟨g4, rfl⟩ := rows_some own4
        refine ⟨j + 1, r - 1, g4, c4, x + 1 + y, rs ++ [⟨x, rv, rg⟩], by omega, by go_num, rfl, by go_num, by omega, by omega, own4, ?_, ?_⟩
        · have := s3.new.below b4 (by omega)
          rw [show k + 1 + 4 * (j + 1) = k + 1 + 4 * j + 3 + 1 by omega]
          exact this
        · exact gr_on (gr_new gr3) b4
      case measure => simp [intOf]; omega
    · have hi : ¬ (0 : Int) < (r : Int) := by omega
      obtain rfl : j = m := by omega
      go_wp2
      go_ret
      exact ⟨⟨g, cp, rfl, rs, own⟩, ⟨_, by omega, sr⟩, gr⟩

theorem rows_set0 {w : World} {B g m cp : Nat} {rs : List Ch.Row} (h : w.ownsRow B 105 3 (.slice (some ⟨g, 0, none⟩) m cp) m (rcells rs)) (hm : 0 < m) :
    (∀ x : Int, ∃ rs', (w.setCell ⟨g, 0, none⟩ (.int .i64 x)).ownsRow B 105 3 (.slice (some ⟨g, 0, none⟩) m cp) m (rcells rs')) ∧
    (∀ x : Int, ∃ rs', (w.setCell ⟨g, 1, none⟩ (.int .i64 x)).ownsRow B 105 3 (.slice (some ⟨g, 0, none⟩) m cp) m (rcells rs')) ∧
    (∃ rs', (w.setCell ⟨g, 2, none⟩ (.bool true)).ownsRow B 105 3 (.slice (some ⟨g, 0, none⟩) m cp) m (rcells rs')) ∧
    ∃ r, rs.head? = some r ∧ w.cell? ⟨g, 0, none⟩ = some (.int .i64 r.k) ∧ w.cell? ⟨g, 1, none⟩ = some (.int .i64 r.v) ∧ w.cell? ⟨g, 2, none⟩ = some (.bool r.g) := by
  have hl := (owns_cells h).rlen.out
  cases rs with
  | nil => simp at hl; omega
  | cons r rs =>
    have e : ∀ r' : Ch.Row, rcells (r' :: rs) = [.int .i64 r'.k, .int .i64 r'.v, .bool r'.g] ++ rcells rs := fun r' => by simp [rcells]
    refine ⟨fun x => ⟨⟨x, r.v, r.g⟩ :: rs, ?_⟩, fun x => ⟨⟨r.k, x, r.g⟩ :: rs, ?_⟩, ⟨⟨r.k, r.v, true⟩ :: rs, ?_⟩, r, rfl, ?_⟩
    · have := (h.stored 0 (.int .i64 x)).1
      rw [e] at this ⊢; exact this
    · have := (h.stored 1 (.int .i64 x)).1
      rw [e] at this ⊢; exact this
    · have := (h.stored 2 (.bool true)).1
      rw [e] at this ⊢; exact this
    · obtain ⟨b, off, hb, c0, c1, c2⟩ := (owns_cells h).row (k := 0) hm
      simp only [Option.some.injEq, Addr.mk.injEq, and_true] at hb
      obtain ⟨rfl, rfl⟩ := hb
      exact ⟨c0, c1, c2⟩


set_option maxHeartbeats 4000000 in
theorem page_any (s : Nat) (a : Option Addr) (n cap k : Nat) (zs : List Int) (w : World) (h : Src w s a n cap k zs) (hb : IsB zs) (hn : n ≤ 1048580) (hk : k ≤ 400) :
    Calls Try.prog 128 #[.pointer (some ⟨s, 0, none⟩)] w fun e w' => (∃ g m cp, e = .returned (.slice (some ⟨g, 0, none⟩) m cp) ∧ m ≤ 5 ∧ ∃ rs, w'.ownsRow w.heap.size 105 3 (.slice (some ⟨g, 0, none⟩) m cp) m (rcells rs)) ∧ (∃ k', k' ≤ k + 60 ∧ Src w' s a n cap k' zs) ∧ w.grownBy w' (some s) := by
  have hlt := h.lt
  go_enter Try.func128, Try.ntmps128
  go_wp2_with fail
  refine (next_any 5 s a n cap k zs _ h hb hn (by omega) (by omega) (by omega)).mono ?_
  rintro e w1 ⟨⟨x, x0, x1, rfl⟩, s1, g1⟩
  obtain ⟨m, rfl⟩ := Int.eq_ofNat_of_zero_le x0
  have z1 := g1.size
  go_wp2_with fail
  refine (rows_any m s a n cap _ zs _ s1 hb hn (by omega) (by omega)).mono ?_
  rintro e w2 ⟨⟨g, cp, rfl, rs, own0⟩, ⟨k2, hk2, s2⟩, g2'⟩
  have own := owns_base own0 z1
  have g2 := gr_trans g1 g2'
  have z2 := g2.size
  have hgb := owns_bounds own
  clear own0 g2' g1 s1
  by_cases hm : 0 < m
  · have hi : (0 : Int) < (m : Int) := by omega
    go_wp2_with fail
    refine (next_any 14 s a n cap _ zs _ s2 hb hn (by omega) (by omega) (by omega)).mono ?_
    rintro e w3 ⟨⟨v, v0, v1, rfl⟩, s3, g3'⟩
    have own := owns_grown own g3' (fun g' hg => by simp [Value.ownBlock] at hg; simp; omega)
    have g3 := gr_trans g2 g3'
    have z3 := g3.size
    clear g3' g2 s2
    have hv : v = 0 ∨ v = 1 ∨ v = 2 ∨ v = 3 ∨ 3 < v := by omega
    rcases hv with rfl | rfl | rfl | rfl | hv
    focus
      go_wp2_with fail
      refine (pick_any w3.heap.size 3 [-1, 99, 100] s a n cap _ zs _ s3.new hb hn (by omega) (heap_alloc_new w3 _) (by have := s3.lt; omega) rfl (by omega) (by omega)).mono ?_
      rintro e w4 ⟨⟨y, _, rfl⟩, s4, g4⟩
      have own := owns_grown (own.alloc _) g4 (fun g' hg => by simp [Value.ownBlock] at hg; simp; omega)
      have gr4 := gr_trans g3 (gr_alloc g4)
      obtain ⟨t0, t1, t2, r, hr, c0, c1, c2⟩ := rows_set0 own hm
      have f0 := own.frozenAt 0
      obtain ⟨rs9, own9⟩ := t0 y
      have s9 := s4.set (b := g) (o := 0) (v := .int .i64 y) (by omega)
      have gr9 := gr_set' (o := 0) (v := .int .i64 y) gr4 hgb.1
      have hm9 : m ≤ 5 := by omega
      clear t0 t1 t2 g4 gr4 g3 own s3 s4
      go_wp2_with fail
    rotate_left
    focus
      go_wp2_with fail
      refine (pick_any w3.heap.size 3 [-1, 9999, 10000] s a n cap _ zs _ s3.new hb hn (by omega) (heap_alloc_new w3 _) (by have := s3.lt; omega) rfl (by omega) (by omega)).mono ?_
      rintro e w4 ⟨⟨y, _, rfl⟩, s4, g4⟩
      have own := owns_grown (own.alloc _) g4 (fun g' hg => by simp [Value.ownBlock] at hg; simp; omega)
      have gr4 := gr_trans g3 (gr_alloc g4)
      obtain ⟨t0, t1, t2, r, hr, c0, c1, c2⟩ := rows_set0 own hm
      have f0 := own.frozenAt 1
      obtain ⟨rs9, own9⟩ := t1 y
      have s9 := s4.set (b := g) (o := 1) (v := .int .i64 y) (by omega)
      have gr9 := gr_set' (o := 1) (v := .int .i64 y) gr4 hgb.1
      have hm9 : m ≤ 5 := by omega
      clear t0 t1 t2 g4 gr4 g3 own s3 s4
      go_wp2_with fail
    rotate_left
    focus
      obtain ⟨t0, t1, t2, r, hr, c0, c1, c2⟩ := rows_set0 own hm
      have f0 := own.frozenAt 2
      obtain ⟨rs9, own9⟩ := t2
      have s9 := s3.set (b := g) (o := 2) (v := .bool true) (by omega)
      have gr9 := gr_set' (o := 2) (v := .bool true) g3 hgb.1
      have hm9 : m ≤ 5 := by omega
      clear t0 t1 g3 own s3
      go_wp2_with fail
    rotate_left
    focus
      obtain ⟨_, _, _, r, hr, c0, c1, c2⟩ := rows_set0 own hm
      have hsum : m + 1 ≤ 2097152 := by omega
      go_wp2_with (at_builtin; go_must (refine wpList_appRs (.tmp 36) (.tmp 40) w.heap.size (.slice (some ⟨g, 0, none⟩) m cp) m rs 1 [r] hsum ?_ ?_ ?_ ?_ ?_ ?_ ?_; exact rfl; exact rfl; exact rfl; exact ⟨_, _, rfl, new_row (r := r) rfl⟩; exact own.alloc _; (focus (simp; omega)); intro a4 c4 w4 own9 b4))
      obtain ⟨g4, rfl⟩ := rows_some own9
      have s9 := s3.new.below b4 (by omega)
      have gr9 := gr_on (gr_new g3) b4
      have hm9 : m + 1 ≤ 5 := by omega
      clear own s3 g3 b4
    rotate_left
    focus
      have u0 : (v == 0) = false := by rw [beq_eq_false_iff_ne]; omega
      have u1 : (v == 1) = false := by rw [beq_eq_false_iff_ne]; omega
      have u2 : (v == 2) = false := by rw [beq_eq_false_iff_ne]; omega
      have u3 : (v == 3) = false := by rw [beq_eq_false_iff_ne]; omega
      have own9 := own
      have s9 := s3
      have gr9 := g3
      have hm9 : m ≤ 5 := by omega
      clear own s3 g3
      go_wp2_with fail
    rotate_left
    all_goals
      refine (chance_any 30 s a n cap _ zs _ s9 hb hn (by omega) (by omega) (by omega)).mono ?_
      rintro e w8 ⟨⟨c, rfl⟩, s10, g10⟩
      have own10 := owns_grown own9 g10 (fun g' hg => by have := (owns_lt own9 g' hg).1; simp; omega)
      have gr10 := gr_trans gr9 g10
      clear own9 gr9 g10 s9
      cases c
      · go_wp2
        go_ret
        exact ⟨⟨_, _, _, rfl, hm9, _, own10⟩, ⟨_, by omega, s10⟩, gr10⟩
      · go_wp2_with fail
        refine (rows_any 5 s a n cap _ zs _ s10 hb hn (by omega) (by omega)).mono ?_
        rintro e w11 ⟨⟨g', cp', rfl, rs', own11⟩, ⟨k11, hk11, s11⟩, g11⟩
        go_wp2
        go_ret
        exact ⟨⟨_, _, _, rfl, Nat.le_refl _, _, owns_base own11 gr10.size⟩, ⟨k11, by omega, s11⟩, gr_trans gr10 g11⟩
  · have hi : ¬ (0 : Int) < (m : Int) := by omega
    have own9 := own
    have s9 := s2
    have gr9 := g2
    have hm9 : m ≤ 5 := by omega
    clear own s2 g2
    go_wp2_with fail
    refine (chance_any 30 s a n cap _ zs _ s9 hb hn (by omega) (by omega) (by omega)).mono ?_
    rintro e w8 ⟨⟨c, rfl⟩, s10, g10⟩
    have own10 := owns_grown own9 g10 (fun g' hg => by have := (owns_lt own9 g' hg).1; simp; omega)
    have gr10 := gr_trans gr9 g10
    clear own9 gr9 g10 s9
    cases c
    · go_wp2
      go_ret
      exact ⟨⟨_, _, _, rfl, hm9, _, own10⟩, ⟨_, by omega, s10⟩, gr10⟩
    · go_wp2_with fail
      refine (rows_any 5 s a n cap _ zs _ s10 hb hn (by omega) (by omega)).mono ?_
      rintro e w11 ⟨⟨g', cp', rfl, rs', own11⟩, ⟨k11, hk11, s11⟩, g11⟩
      go_wp2
      go_ret
      exact ⟨⟨_, _, _, rfl, Nat.le_refl _, _, owns_base own11 gr10.size⟩, ⟨k11, by omega, s11⟩, gr_trans gr10 g11⟩

end Go.Proofs.Ythfanfnbjldddaa
