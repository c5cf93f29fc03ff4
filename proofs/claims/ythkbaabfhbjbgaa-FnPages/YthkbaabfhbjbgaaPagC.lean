/- The draw of a page: any rows, five at most. -/
import Derived.Test.YthkbaabfhbjbgaaPagB
namespace Go.Proofs.Ythkbaabfhbjbgaa
open Go.RowKit

/-- One of the first row's three cells, set. -/
theorem rows_set0 {w : World} {B g m cp : Nat} {rs : List Ch.Row} (h : w.ownsRow B 36 3 (.slice (some ⟨g, 0, none⟩) m cp) m (rcells rs)) (hm : 0 < m) :
    (∀ x : Int, ∃ rs', (w.setCell ⟨g, 0, none⟩ (.int .i64 x)).ownsRow B 36 3 (.slice (some ⟨g, 0, none⟩) m cp) m (rcells rs')) ∧
    (∀ x : Int, ∃ rs', (w.setCell ⟨g, 1, none⟩ (.int .i64 x)).ownsRow B 36 3 (.slice (some ⟨g, 0, none⟩) m cp) m (rcells rs')) ∧
    (∃ rs', (w.setCell ⟨g, 2, none⟩ (.bool true)).ownsRow B 36 3 (.slice (some ⟨g, 0, none⟩) m cp) m (rcells rs')) ∧
    ∃ r, rs.head? = some r ∧ w.cell? ⟨g, 0, none⟩ = some (.int .i64 r.k) ∧ w.cell? ⟨g, 1, none⟩ = some (.int .i64 r.v) ∧ w.cell? ⟨g, 2, none⟩ = some (.bool r.g) := by
  have hl := (owns_cells h).rlen.out
  cases rs with
  | nil => simp at hl; omega
  | cons r rs =>
    have e : ∀ r' : Ch.Row, rcells (r' :: rs) = [.int .i64 r'.k, .int .i64 r'.v, .bool r'.g] ++ rcells rs := fun r' => by simp [rcells]
    refine ⟨fun x => ⟨⟨x, r.v, r.g⟩ :: rs, ?_⟩, fun x => ⟨⟨r.k, x, r.g⟩ :: rs, ?_⟩, ⟨⟨r.k, r.v, true⟩ :: rs, ?_⟩, r, rfl, ?_⟩
    · have := (h.stored 0 (.int .i64 x)).1
      rw [e] at this ⊢; exact this
    · have := (h.stored 1 (.int .i64 x)).1
      rw [e] at this ⊢; exact this
    · have := (h.stored 2 (.bool true)).1
      rw [e] at this ⊢; exact this
    · obtain ⟨b, off, hb, c0, c1, c2⟩ := (owns_cells h).row (k := 0) hm
      simp only [Option.some.injEq, Addr.mk.injEq, and_true] at hb
      obtain ⟨rfl, rfl⟩ := hb
      exact ⟨c0, c1, c2⟩

set_option maxHeartbeats 4000000 in
theorem page_any (s : Nat) (a : Option Addr) (n cap k : Nat) (zs : List Int) (w : World) (h : Src w s a n cap k zs) (hb : IsB zs) (hn : n ≤ 1048576) (hk : k ≤ 100) :
    Calls Try.prog 47 #[.pointer (some ⟨s, 0, none⟩)] w fun e w' => (∃ g m cp, e = .returned (.slice (some ⟨g, 0, none⟩) m cp) ∧ m ≤ 5 ∧ ∃ rs, w'.ownsRow w.heap.size 36 3 (.slice (some ⟨g, 0, none⟩) m cp) m (rcells rs)) ∧ w.grownBy w' (some s) := by
  have hlt := h.lt
  go_enter Try.func47, Try.ntmps47
  go_wp2_with fail
  refine (next_any 5 s a n cap k zs _ h hb hn (by omega) (by omega) (by omega)).mono ?_
  rintro e w1 ⟨⟨x, x0, x1, rfl⟩, s1, g1⟩
  obtain ⟨m, rfl⟩ := Int.eq_ofNat_of_zero_le x0
  have z1 := g1.size
  go_wp2_with fail
  refine (rows_any m s a n cap _ zs _ s1 hb hn (by omega) (by omega)).mono ?_
  rintro e w2 ⟨⟨g, cp, rfl, rs, fit, own0⟩, ⟨k2, hk2, s2⟩, g2'⟩
  have own := owns_base own0 z1
  have g2 := gr_trans g1 g2'
  have z2 := g2.size
  have hgb := owns_bounds own
  clear own0 g2' fit g1 s1
  by_cases hm : 0 < m
  · have hi : (0 : Int) < (m : Int) := by omega
    go_wp2_with fail
    refine (next_any 14 s a n cap _ zs _ s2 hb hn (by omega) (by omega) (by omega)).mono ?_
    rintro e w3 ⟨⟨v, v0, v1, rfl⟩, s3, g3'⟩
    have own := owns_grown own g3' (fun g' hg => by simp [Value.ownBlock] at hg; simp; omega)
    have g3 := gr_trans g2 g3'
    have z3 := g3.size
    clear g3' g2 s2
    have hv : v = 0 ∨ v = 1 ∨ v = 2 ∨ v = 3 ∨ 3 < v := by omega
    rcases hv with rfl | rfl | rfl | rfl | hv
    focus
      go_wp2_with fail
      refine (pick_any w3.heap.size _ _ _ s a n cap _ zs _ s3.new hb hn (by omega) (heap_alloc_new w3 _) (by have := s3.lt; omega)).mono ?_
      rintro e w4 ⟨⟨y, rfl⟩, s4, g4⟩
      have own := owns_grown (own.alloc _) g4 (fun g' hg => by simp [Value.ownBlock] at hg; simp; omega)
      have gr4 := gr_trans g3 (gr_alloc g4)
      obtain ⟨t0, t1, t2, r, hr, c0, c1, c2⟩ := rows_set0 own hm
      have f0 := own.frozenAt 0
      obtain ⟨rs9, own9⟩ := t0 y
      have s9 := s4.set (b := g) (o := 0) (v := .int .i64 y) (by omega)
      have gr9 := gr_set' (o := 0) (v := .int .i64 y) gr4 hgb.1
      have hm9 : m ≤ 5 := by omega
      clear t0 t1 t2 g4 gr4 g3 own s3 s4
      go_wp2_with fail
    rotate_left
    focus
      go_wp2_with fail
      refine (pick_any w3.heap.size _ _ _ s a n cap _ zs _ s3.new hb hn (by omega) (heap_alloc_new w3 _) (by have := s3.lt; omega)).mono ?_
      rintro e w4 ⟨⟨y, rfl⟩, s4, g4⟩
      have own := owns_grown (own.alloc _) g4 (fun g' hg => by simp [Value.ownBlock] at hg; simp; omega)
      have gr4 := gr_trans g3 (gr_alloc g4)
      obtain ⟨t0, t1, t2, r, hr, c0, c1, c2⟩ := rows_set0 own hm
      have f0 := own.frozenAt 1
      obtain ⟨rs9, own9⟩ := t1 y
      have s9 := s4.set (b := g) (o := 1) (v := .int .i64 y) (by omega)
      have gr9 := gr_set' (o := 1) (v := .int .i64 y) gr4 hgb.1
      have hm9 : m ≤ 5 := by omega
      clear t0 t1 t2 g4 gr4 g3 own s3 s4
      go_wp2_with fail
    rotate_left
    focus
      obtain ⟨t0, t1, t2, r, hr, c0, c1, c2⟩ := rows_set0 own hm
      have f0 := own.frozenAt 2
      obtain ⟨rs9, own9⟩ := t2
      have s9 := s3.set (b := g) (o := 2) (v := .bool true) (by omega)
      have gr9 := gr_set' (o := 2) (v := .bool true) g3 hgb.1
      have hm9 : m ≤ 5 := by omega
      clear t0 t1 g3 own s3
      go_wp2_with fail
    rotate_left
    focus
      obtain ⟨_, _, _, r, hr, c0, c1, c2⟩ := rows_set0 own hm
      go_wp2_with (at_builtin; refine wpList_appR (.tmp 36) (.tmp 40) w.heap.size (.slice (some ⟨g, 0, none⟩) m cp) m rs r (by omega) ?_ ?_ ?_ ?_ ?_ ?_ ?_; exact rfl; exact rfl; exact rfl; (refine ⟨_, _, 36, rfl, ?_⟩; exact heap_new' rfl); exact own.alloc _; (simp; omega); intro g4 c4 w4 own9 b4)
      have s9 := s3.new.below b4 (by omega)
      have gr9 := gr_on (gr_new g3) b4
      have hm9 : m + 1 ≤ 5 := by omega
      clear own s3 g3 b4
    rotate_left
    focus
      have u0 : (v == 0) = false := by rw [beq_eq_false_iff_ne]; omega
      have u1 : (v == 1) = false := by rw [beq_eq_false_iff_ne]; omega
      have u2 : (v == 2) = false := by rw [beq_eq_false_iff_ne]; omega
      have u3 : (v == 3) = false := by rw [beq_eq_false_iff_ne]; omega
      have own9 := own
      have s9 := s3
      have gr9 := g3
      have hm9 : m ≤ 5 := by omega
      clear own s3 g3
      go_wp2_with fail
    rotate_left
    all_goals
      refine (chance_any 30 s a n cap _ zs _ s9 hb hn (by omega) (by omega) (by omega)).mono ?_
      rintro e w8 ⟨⟨c, rfl⟩, s10, g10⟩
      have own10 := owns_grown own9 g10 (fun g' hg => by have := (owns_lt own9 g' hg).1; simp; omega)
      have gr10 := gr_trans gr9 g10
      clear own9 gr9 g10 s9
      cases c
      · go_wp2
        go_ret
        exact ⟨⟨_, _, _, rfl, hm9, _, own10⟩, gr10⟩
      · go_wp2_with fail
        refine (rows_any 5 s a n cap _ zs _ s10 hb hn (by omega) (by omega)).mono ?_
        rintro e w11 ⟨⟨g', cp', rfl, rs', fit', own11⟩, _, g11⟩
        go_wp2
        go_ret
        exact ⟨⟨_, _, _, rfl, Nat.le_refl _, _, owns_base own11 gr10.size⟩, gr_trans gr10 g11⟩
  · have hi : ¬ (0 : Int) < (m : Int) := by omega
    have own9 := own
    have s9 := s2
    have gr9 := g2
    have hm9 : m ≤ 5 := by omega
    clear own s2 g2
    go_wp2_with fail
    refine (chance_any 30 s a n cap _ zs _ s9 hb hn (by omega) (by omega) (by omega)).mono ?_
    rintro e w8 ⟨⟨c, rfl⟩, s10, g10⟩
    have own10 := owns_grown own9 g10 (fun g' hg => by have := (owns_lt own9 g' hg).1; simp; omega)
    have gr10 := gr_trans gr9 g10
    clear own9 gr9 g10 s9
    cases c
    · go_wp2
      go_ret
      exact ⟨⟨_, _, _, rfl, hm9, _, own10⟩, gr10⟩
    · go_wp2_with fail
      refine (rows_any 5 s a n cap _ zs _ s10 hb hn (by omega) (by omega)).mono ?_
      rintro e w11 ⟨⟨g', cp', rfl, rs', fit', own11⟩, _, g11⟩
      go_wp2
      go_ret
      exact ⟨⟨_, _, _, rfl, Nat.le_refl _, _, owns_base own11 gr10.size⟩, gr_trans gr10 g11⟩

theorem drawPack_any (a : Option Addr) (n cap : Nat) (zs : List Int) (w : World) (h : CellsAt w a n (bts zs)) (hb : IsB zs) (hn : n ≤ 1048576) :
    Calls Try.prog 14 #[.slice a n cap] w fun e w' => (∃ g m cp, e = .returned (.slice (some ⟨g, 0, none⟩) m cp) ∧ m ≤ 5 ∧ ∃ rs, CellsAt w' (some ⟨g, 0, none⟩) (m * 3) (rcells rs)) ∧ Below w.heap.size w w' := by
  go_enter Try.func14, Try.ntmps14
  go_wp2_with fail
  refine (source_any a n cap zs w h).mono ?_
  rintro e w1 ⟨rfl, s1, b1⟩
  go_wp2_with fail
  refine (page_any w.heap.size a n cap 0 zs _ s1 hb hn (by omega)).mono ?_
  rintro e w2 ⟨⟨g, m, cp, rfl, hm, rs, own⟩, g2⟩
  go_wp2
  go_ret
  exact ⟨⟨_, _, _, rfl, hm, _, owns_cells own⟩, b1.trans (below_gr g2 (Nat.le_refl _) b1.size)⟩
end Go.Proofs.Ythkbaabfhbjbgaa
