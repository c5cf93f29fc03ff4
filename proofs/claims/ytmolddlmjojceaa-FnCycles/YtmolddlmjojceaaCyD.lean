
/- DrawCycleFrom: edges and a transaction. -/
import Derived.Test.YtmolddlmjojceaaCyN
import Derived.Test.YtmolddlmjojceaaEdF
import Derived.Test.YtmolddlmjojceaaEdB
namespace Go.Proofs.Ytmolddlmjojceaa
open Go.RowKit

theorem own_drewC {w w' : World} {s base : Nat} {e : TypeId} {size : Nat} {v : Value} {n : Nat} {xs : List Value} (h : w.ownsRow base e size v n xs) (hg : w.grownBy w' (some s)) (hs : s < base) : w'.ownsRow base e size v n xs :=
  owns_grown h hg (fun g hv hk => by have := (owns_lt h g hv).1; cases hk; omega)
theorem below_drewC {w w' w'' : World} {s B : Nat} (h : Below B w w') (hg : w'.grownBy w'' (some s)) (hs : B ≤ s) (hB : B ≤ w'.heap.size) : Below B w w'' := h.grown hg hB (fun j hj => by cases hj; exact hs)
/-- Edges that are drawn. -/
def DrwE (s : Nat) (a : Option Addr) (n cap : Nat) (zs : List Int) (w : World) (e : Ending) (w' : World) : Prop :=
  ∃ g m c es d, e = .returned (.slice (some ⟨g, 0, none⟩) m c) ∧ m ≤ 1048576 ∧ w'.ownsRow w.heap.size 33 2 (.slice (some ⟨g, 0, none⟩) m c) m (hcells es) ∧ d ≤ 60 ∧ Src w' s a n cap d zs ∧ w.grownBy w' (some s)
theorem DrwE.end_ {s : Nat} {a : Option Addr} {n cap : Nat} {zs : List Int} {w w' : World} {g m c d : Nat} {es : List Ch.Hold} (hm : m ≤ 1048576) (ho : w'.ownsRow w.heap.size 33 2 (.slice (some ⟨g, 0, none⟩) m c) m (hcells es)) (hd : d ≤ 60) (hs : Src w' s a n cap d zs) (hg : w.grownBy w' (some s)) : DrwE s a n cap zs w (.returned (.slice (some ⟨g, 0, none⟩) m c)) w' :=
  ⟨g, m, c, es, d, rfl, hm, ho, hd, hs, hg⟩
theorem pair_addr {w : World} {B k c : Nat} {a : Option Addr} {xs : List Value} {T : TypeId} (h : w.ownsRow B T 2 (.slice a (k + 1) c) (k + 1) xs) : ∃ g, a = some ⟨g, 0, none⟩ := by
  rcases h.2 with ⟨hv, _⟩ | ⟨g, cap, cur, hv, _⟩
  · simp at hv
  · simp only [Value.slice.injEq] at hv
    exact ⟨g, hv.1⟩

set_option linter.unusedSimpArgs false in
set_option maxRecDepth 20000 in
set_option maxHeartbeats 4000000 in
theorem l7Draw_any (s : Nat) (a : Option Addr) (n cap : Nat) (zs : List Int) (w : World) (h : Src w s a n cap 0 zs) (hb : IsB zs) (hn : n ≤ 1048580) :
    Calls Try.prog 24 #[.pointer (some ⟨s, 0, none⟩)] w fun e w' => DrwE s a n cap zs w e w' := by
  obtain ⟨i0, hi0, hz0, hz1, hz2⟩ := info_parts Try.info33
  have HB := hid hb
  clear hb
  have lS := h.lt
  obtain ⟨V, hV⟩ : ∃ V, w.heap.size = V := ⟨_, rfl⟩
  have oE := empty_ownE w V 33 2 (by omega)
  have G0 : w.grownBy (w.alloc (.cells #[] 33)) (some s) := gr_new (gr_below (Below.refl _ _) _)
  have s0 := h.new (o := .cells #[] 33)
  have lV : s < V := by omega
  go_enter Try.func24, Try.ntmps24
  go_wp2_with fail
  refine (next_any 4 s a n cap 0 zs _ s0 HB.out hn (by omega) (by decide) (by decide)).mono ?_
  rintro e w1 ⟨⟨v1, v10, v14, rfl⟩, s1, g1⟩
  have o1 := own_drewC oE g1 lV
  have G1 := gr_trans G0 g1
  clear oE G0 s0 h g1
  go_wp2_with fail
  refine (next_any 9 s a n cap 1 zs _ s1 HB.out hn (by omega) (by decide) (by decide)).mono ?_
  rintro e w2 ⟨⟨v2, v20, v29, rfl⟩, s2, g2⟩
  have o2 := own_drewC o1 g2 lV
  have G2 := gr_trans G1 g2
  clear o1 G1 s1 g2
  rw [hV] at o2
  go_wp2_with fail
  go_loopw [3, 5] (fun q i wr => ∃ (kk : Int) (g m d c : Nat) (es : List Ch.Hold), 0 ≤ kk ∧ kk + m ≤ 8 ∧ (d : Int) + 2 * kk ≤ 20 ∧ i = .int .i64 kk ∧ q = .slice (some ⟨g, 0, none⟩) m c ∧ wr.ownsRow V 33 2 (.slice (some ⟨g, 0, none⟩) m c) m (hcells es) ∧ Src wr s a n cap d zs ∧ w.grownBy wr (some s)) (fun _ i _ => (intOf i).toNat)
  case atStart => exact ⟨v2, V, 0, 2, 0, [], v20, by omega, by omega, rfl, rfl, o2, s2, G2⟩
  case round =>
    clear o2 s2 G2 v20 v29
    obtain ⟨kk, g, m, d, c, es, hk0, hk8, hd, rfl, rfl, own, src, G⟩ := hrel
    have hdl : d ≤ 20 := by omega
    have lS := src.lt
    have hVr : V ≤ wr.heap.size := by have := G.size; omega
    by_cases hlt : 0 < kk
    · go_wp2_with fail
      refine (next_any (3 + v1) s a n cap d zs _ src HB.out hn (by omega) (by omega) (by omega)).mono ?_
      rintro e u1 ⟨⟨x1, x10, x16, rfl⟩, s1, g1⟩
      have own := own_drewC own g1 lV
      have G := gr_trans G g1
      clear g1 src
      go_wp2_with fail
      refine (next_any (3 + v1) s a n cap (d + 1) zs _ s1 HB.out hn (by omega) (by omega) (by omega)).mono ?_
      rintro e u2 ⟨⟨x2, x20, x26, rfl⟩, s2, g2⟩
      have own := own_drewC own g2 lV
      have G := gr_trans G g2
      clear g2 s1
      have hV2 : V ≤ u2.heap.size := by have := G.size; omega
      by_cases hx : (1 + x1 : Int) = 1 + x2
      · have e1 : ((1 + x1 : Int) != 1 + x2) = false := by simpa using hx
        clear hx
        go_wp2
        go_roundw
        case rel => exact ⟨kk - 1, g, m, d + 1 + 1, c, es, by omega, by omega, by omega, by go_num, rfl, own, s2, G⟩
        case measure => simp [intOf]; omega
      · have e1 : ((1 + x1 : Int) != 1 + x2) = true := by simpa using hx
        clear hx
        have HP := l7Put_any V g m c es (1 + x1) (1 + x2) u2 own (by omega) hV2
        unfold PutD at HP
        go_wp2_with fail
        refine HP.mono ?_
        rintro e u3 ⟨g3, m3, c3, rfl, own3, hm3, b3⟩
        have s3 := s2.below b3 s2.lt
        have G3 := gr_on G (b3.mono G.size)
        clear HP s2 own G b3
        go_wp2
        go_roundw
        case rel => exact ⟨kk - 1, g3, m3, d + 1 + 1, c3, _, by omega, by omega, by omega, by go_num, rfl, own3, s3, G3⟩
        case measure => simp [intOf]; omega
    · obtain rfl : kk = 0 := by omega
      have hm8 : m ≤ 8 := by omega
      clear hlt hk0 hk8
      go_wp2_with fail
      refine (next_any 20 s a n cap d zs _ src HB.out hn (by omega) (by decide) (by decide)).mono ?_
      rintro e u1 ⟨⟨x1, x10, x16, rfl⟩, s1, g1⟩
      have own := own_drewC own g1 lV
      have G := gr_trans G g1
      have lS := s1.lt
      have hV1 : V ≤ u1.heap.size := by have := G.size; omega
      clear g1 src
      by_cases h0 : x1 = 0
      · subst h0
        clear x10 x16
        go_wp2_with fail
        refine (pick_any u1.heap.size 3 [0, 3, 1000] s a n cap (d + 1) zs _ s1.new HB.out hn (by omega) (heap_alloc_new u1 _) (by omega) rfl (by decide) (by decide)).mono ?_
        rintro e u2 ⟨⟨y1, y1m, rfl⟩, s2, g2⟩
        have own := own_drewC (own.alloc (.cells #[.int .i64 0, .int .i64 3, .int .i64 1000] 2)) g2 lV
        have G := gr_trans (gr_new (o := .cells #[.int .i64 0, .int .i64 3, .int .i64 1000] 2) G) g2
        have lS := s2.lt
        clear g2 s1 y1m
        go_wp2_with fail
        refine (pick_any u2.heap.size 2 [3, 0] s a n cap (d + 1 + 1) zs _ s2.new HB.out hn (by omega) (heap_alloc_new u2 _) (by omega) rfl (by decide) (by decide)).mono ?_
        rintro e u3 ⟨⟨y2, y2m, rfl⟩, s3, g3⟩
        have own := own_drewC (own.alloc (.cells #[.int .i64 3, .int .i64 0] 2)) g3 lV
        have G := gr_trans (gr_new (o := .cells #[.int .i64 3, .int .i64 0] 2) G) g3
        have hV3 : V ≤ u3.heap.size := by have := G.size; omega
        clear g3 s2 y2m
        have kQ : Below u3.heap.size u3 (u3.alloc (.cells #[.int .i64 y1, .int .i64 y2] 33)) := (Below.refl _ _).alloc (Nat.le_refl _) _
        have own3 := owns_below own kQ
        have hb3 : V ≤ (u3.alloc (.cells #[.int .i64 y1, .int .i64 y2] 33)).heap.size := by simp; omega
        have G3 := gr_new (o := .cells #[.int .i64 y1, .int .i64 y2] 33) G
        have s3' := s3.new (o := .cells #[.int .i64 y1, .int .i64 y2] 33)
        have hsum : m + 1 ≤ 4194304 := by omega
        go_wp2_with (at_builtin; go_must (refine wpList_appX Try.underlying24 Try.underlying24 hi0 hz0 hz1 hz2 rfl (by omega) (by omega) (.tmp 38) (.tmp 46) ?_ ?_ V (.slice (some ⟨g, 0, none⟩) m c) m (hcells es) _ 1 1 (hcells [⟨y1, y2⟩]) ?_ ?_ own3 (new_hold u3 y1 y2 33) (hcells_one' _) hsum hb3 ?_; exact rfl; exact rfl; exact rfl; exact rfl; intro a5 c5 w5 own5 gr5 at5))
        go_ret
        rw [← hcells_append] at own5
        obtain ⟨g5, rfl⟩ := pair_addr own5
        have b5 : Below w.heap.size (u3.alloc (.cells #[.int .i64 y1, .int .i64 y2] 33)) w5 := (Below.refl _ _).grown gr5 (by omega) (fun g' hg' => by have := (owns_lt own3 g' hg').1; omega)
        exact DrwE.end_ (by omega) (by rw [hV]; exact own5) (show d + 1 + 1 + 1 ≤ 60 by omega) (s3'.grown gr5 (fun r hr => by have := (owns_lt own3 r hr).1; omega)) (gr_on G3 b5)
      · have e0 : (x1 == 0) = false := by simpa using h0
        clear h0
        by_cases h1 : x1 = 1
        · subst h1
          clear x10 x16
          go_wp2_with (at_make; refine wpList_make_full _ rfl _ _ 24 rfl V 33 i0 (.agg #[.int .i64 0, .int .i64 0]) 2 Try.underlying24 hi0 hz0 hz1 .i64 .i64 _ _ 401 rfl rfl rfl rfl (by rw [hz2]; omega) (by unfold maxLen; omega) hV1 ?_; intro w6 own6 gr6)
          go_ret
          rw [made_holds] at own6
          have b6 : Below u1.heap.size u1 w6 := (Below.refl _ _).grown gr6 (Nat.le_refl _) (by simp)
          exact DrwE.end_ (by omega) (by rw [hV]; exact own6) (show d + 1 ≤ 60 by omega) (s1.below b6 lS) (gr_on G (b6.mono G.size))
        · have e1 : (x1 == 1) = false := by simpa using h1
          clear h1
          go_wp2
          go_ret
          exact DrwE.end_ (by omega) (by rw [hV]; exact own) (show d + 1 ≤ 60 by omega) s1 G
end Go.Proofs.Ytmolddlmjojceaa
