
/- losersIn of the program: a range over the map, then a sort. -/
import Derived.Test.YtoijjjckdggglaaLosA
import Derived.Test.YtoijjjckdggglaaLosS
import Derived.Test.YtoijjjckdggglaaRvC
namespace Go.Proofs.Ytoijjjckdggglaa
open Go.RowKit Go.Maps Go.Sort

theorem gr_belowV {w w' : World} (h : Below w.heap.size w w') (row : Option Nat) : w.grownBy w' row := ⟨h.os, h.tape, h.output, h.size, fun k hk _ => h.block k hk⟩

theorem lost_any (fb fe : Bool) (fn : Int) (w : World) :
    Calls Try.prog 59 #[.agg #[.bool fb, .bool fe, .int .i64 fn]] w fun e w' => e = .returned (.bool (Ch.Ft.lost ⟨fb, fe, fn⟩)) ∧ Below w.heap.size w w' := by
  cases fb <;> cases fe
  all_goals
    go_enter Try.func59, Try.ntmps59
    go_wp2
    go_ret
    exact ⟨rfl, (Below.refl _ _).alloc (Nat.le_refl _) _⟩

theorem sortI_any (base g n cap : Nat) (zs : List Int) (w : World) (hrow : w.ownsRow base 2 1 (.slice (some ⟨g, 0, none⟩) n cap) n (icells zs)) (hn : n ≤ 1048576) :
    Calls Try.prog 60 #[.slice (some ⟨g, 0, none⟩) n cap] w fun e w' => e = .returned (.tuple #[]) ∧ w'.ownsRow base 2 1 (.slice (some ⟨g, 0, none⟩) n cap) n (icells (zs.mergeSort fun x y => decide (x ≤ y))) ∧ w.grownBy w' (some g) := by
  have hl : n = zs.length := by have := hrow.1; rw [icells_len] at this; omega
  subst hl
  rcases hrow.2 with ⟨hnil, _⟩ | ⟨g', cap', cur, hv, hbase, hb, h1, h2, h3, h4⟩
  · cases hnil
  cases hv
  have hH : Holds (Value.int .i64) w g 0 zs.toArray := holds_of_blockI hb (by rw [Nat.mul_one] at h4; exact h4)
  have hg : g < w.heap.size := (Array.getElem?_eq_some_iff.1 hb).1
  have hcon := AnyM.slices_Sort_int Try.sortInts g 0 cap zs w hH hg (by omega)
  change Calls Try.prog 60 _ _ _ at hcon
  refine hcon.mono ?_
  rintro e w' ⟨rfl, nn, os, rfl⟩
  exact ⟨rfl, ownsRow_sortedI (by simp) hbase hb h1 h2 h3, grownBy_sortedI _⟩

theorem sortN_any (p : Option Addr) (cap : Nat) (w : World) :
    Calls Try.prog 60 #[.slice p 0 cap] w fun e w' => e = .returned (.tuple #[]) ∧ w' = w := by
  have hcon := AnyM.slices_Sort_int_none Try.sortInts p cap w
  change Calls Try.prog 60 _ _ _ at hcon
  exact hcon

/-- What has come of the map so far. -/
structure CollF (F : Int → Ch.Ft) (left : Lit → Bool) (zs : List Int) : Prop where
  nd : zs.Nodup
  mem : ∀ t, t ∈ zs ↔ (F t).lost = true ∧ left (kF t) = false
theorem CollF.start {F : Int → Ch.Ft} {D : DataW Unit} (h : Fm F D) : CollF F (Maps.has D) [] := by
  refine ⟨List.nodup_nil, fun t => ?_⟩
  constructor
  · intro h; simp at h
  · rintro ⟨h1, h2⟩
    rw [h.none h2] at h1
    simp [Ch.Ft.lost, Ch.Ft.zero] at h1
theorem CollF.yes {F : Int → Ch.Ft} {left : Lit → Bool} {zs : List Int} (h : CollF F left zs) {t : Int} (hl : left (kF t) = true) (hF : (F t).lost = true) : CollF F (fun z => left z && !z.sameKey (kF t)) (zs ++ [t]) := by
  have hnew : t ∉ zs := fun hx => by have := ((h.mem t).1 hx).2; rw [hl] at this; cases this
  refine ⟨List.nodup_append.2 ⟨h.nd, by simp, fun a ha b hb => by simp at hb; subst hb; exact fun e1 => hnew (e1 ▸ ha)⟩, fun s => ?_⟩
  by_cases e : s = t
  · subst e
    rw [WideAt.sameKey_self (kF_isKey _)]
    simp [hF]
  · have hne : kF s ≠ kF t := kF_ne e
    rw [sameKey_ne hne]
    simp [h.mem s, e]
theorem CollF.no {F : Int → Ch.Ft} {left : Lit → Bool} {zs : List Int} (h : CollF F left zs) {t : Int} (hF : (F t).lost = false) : CollF F (fun z => left z && !z.sameKey (kF t)) zs := by
  refine ⟨h.nd, fun s => ?_⟩
  by_cases e : s = t
  · subst e
    rw [h.mem s, hF]
    simp
  · have hne : kF s ≠ kF t := kF_ne e
    rw [sameKey_ne hne]
    simp [h.mem s]
theorem CollF.done {F : Int → Ch.Ft} {left : Lit → Bool} {zs L : List Int} (h : CollF F left zs) (hl : ∀ kl, left kl = false) (hL : L.Pairwise (· < ·)) (hm : ∀ t, t ∈ L ↔ (F t).lost = true) : (zs.mergeSort fun x y => decide (x ≤ y)) = L :=
  Ch.sort_is h.nd hL (fun t => by rw [h.mem t, hm t]; simp [hl])

set_option linter.unusedSimpArgs false in
set_option maxRecDepth 20000 in
set_option maxHeartbeats 4000000 in
theorem losers_any (b q : Nat) (D : DataW Unit) (F : Int → Ch.Ft) (L : List Int) (w : World) (own : w.ownsMap Try.prog 2 ftElem b q D) (mp : Fm F D) (hq : q ≤ 1048576) (hL : L.Pairwise (· < ·)) (hm : ∀ t, t ∈ L ↔ (F t).lost = true) :
    Calls Try.prog 37 #[.map (some b)] w fun e w' => ∃ a n cap, e = .returned (.slice a n cap) ∧ n ≤ 1048576 ∧ w'.ownsRow w.heap.size 2 1 (.slice a n cap) n (icells L) ∧ Below w.heap.size w w' := by
  obtain ⟨i0, hi0, hz0, hz1, hz2⟩ := info_parts Try.info2
  have hbl := own.lt
  have hq : Maps.size D ≤ 1048576 := Nat.le_trans own.size_le hq
  have HMP := hid mp
  have HD := hid (fun (left : Lit → Bool) (zs : List Int) (h : CollF F left zs) (hl : ∀ kl, left kl = false) => h.done hl hL hm)
  clear mp hL hm
  go_enter Try.func37, Try.ntmps37
  go_wp2_with (at_range; go_must (refine wpList_range_own _ rfl _ 57 rfl 2 79 Try.keyedF Try.underlying57 ftElem b q D rfl own ?_; intro w0 hrg0 hg0 hs0))
  go_frame
  have b0 : Below w.heap.size w w0 := (Below.refl _ _).grown hg0 (Nat.le_refl _) (fun j hj => by cases hj)
  have hsz0 : w.heap.size < w0.heap.size := by omega
  clear hs0
  go_loopw [3] (fun v wr => ∃ (left : Lit → Bool) (cnt n : Nat) (ss : List Int) (a : Option Addr) (cap : Nat), v = .slice a n cap ∧ wr.ranges Try.prog 2 ftElem b w.heap.size q D left cnt ∧ n + cnt ≤ Maps.size D ∧
      wr.ownsRow (w.heap.size + 1) 2 1 (.slice a n cap) n (icells ss) ∧ CollF F left ss ∧ w.heap.size < wr.heap.size ∧ Below w.heap.size w wr)
    (fun _ wr => wr.rangeLeft b w.heap.size)
  case atStart => exact ⟨_, _, 0, [], none, 0, rfl, hrg0, by omega, World.ownsRow_nil _ _ _ _, CollF.start HMP.out, hsz0, b0⟩
  case round =>
    clear hrg0 hg0 b0 hsz0
    obtain ⟨left, cnt, n, ss, a, cap, rfl, hrg, hcs, hrow, hC, hsz, hnx⟩ := hrel
    go_wp2_with (at_next; go_must (refine wpList_next_ranges _ rfl _ rfl 2 Try.keyedF ftElem id id (fun key _ _ => ⟨key, rfl⟩) (fun v _ _ => ⟨v, rfl⟩) b w.heap.size q _ _ _ rfl hrg ?_ ?_))
    · intro hc0 hl0
      have HS := hid (HD.out left ss hC hl0)
      clear HD
      rcases hrow.2 with ⟨hnil, _⟩ | ⟨g, cap', cur, hv, _⟩
      · cases hnil
        obtain rfl : ss = [] := by
          have := hrow.1
          rw [icells_len] at this
          exact List.eq_nil_of_length_eq_zero (by omega)
        replace HS : Hid ([] = L) := by have h1 := HS.out; rw [List.mergeSort_nil] at h1; exact h1
        go_wp2_with (go_at_call 60; refine (sortN_any _ _ _).mono ?_; rintro e w' ⟨rfl, rfl⟩)
        go_ret
        exact ⟨none, 0, 0, rfl, by omega, by rw [← HS.out]; exact World.ownsRow_nil _ _ _ _, hnx⟩
      · cases hv
        have hcon := sortI_any (w.heap.size + 1) g n cap ss wr hrow (by omega)
        have hgb := (owns_bounds hrow).1
        rw [HS.out] at hcon
        go_wp2_with (go_at_call 60; refine hcon.mono ?_; rintro e w' ⟨rfl, own', gr'⟩)
        go_ret
        exact ⟨_, n, cap, rfl, by omega, owns_base own' (by omega), hnx.grown gr' hnx.size (fun j hj => by cases hj; omega)⟩
    · intro x c kl yd yp w2 cnt2 hkey hlk hv hat hrg2 hlt hg2 hs2 hen
      obtain ⟨et, rfl, rfl, _⟩ := Maps.keyOf_int_inv Try.underlying2 hkey
      have hF : ftElem c = some (ftD (F et), yp) := by
        have e1 := hat (ftD Ch.Ft.zero)
        rw [show (Lit.int .i64 et) = kF et from rfl, HMP.out.at' et] at e1
        rw [e1]
        exact hv
      have hc := ftElem_inv hF
      have HY := hid (fun hF => hC.yes (t := et) hlk hF)
      have HN := hid (fun hF => hC.no (t := et) hF)
      have hrow2 := hrow.kept hg2 (Or.inr (row_ne_iter hrow hrg).symm)
      have hnx2 := hnx.grown hg2 hnx.size (fun j hj => by cases hj; exact Nat.le_refl _)
      have hsz2 : w.heap.size < w2.heap.size := by omega
      clear hs2 hkey hv hat hrow hC hF HD
      generalize F et = f at *
      obtain ⟨fb, fe, fn⟩ := f
      simp only at hc
      subst hc
      have IL := fun W => lost_any fb fe fn W
      have kQ : Below w2.heap.size w2 (w2.alloc (.cells #[.bool fb, .bool fe, .int .i64 fn] 79)) := (Below.refl _ _).alloc (Nat.le_refl _) _
      have own3 := owns_below hrow2 kQ
      have hrg3 := hrg2.alloc (.cells #[.bool fb, .bool fe, .int .i64 fn] 79)
      have hnx3 := hnx2.trans (kQ.mono hnx2.size)
      have hsz3 := kQ.size
      generalize HLB : Ch.Ft.lost ⟨fb, fe, fn⟩ = lb at *
      go_wp2_with fail
      refine (IL _).mono ?_
      rintro e w4 ⟨rfl, b4⟩
      have own4 := owns_below own3 b4
      have gr4 := gr_belowV b4 none
      have hrg4 := hrg3.kept gr4 (by simp) (by simp)
      have hnx4 := hnx3.trans (b4.mono hnx3.size)
      have hsz4 : w.heap.size < w4.heap.size := by have := b4.size; omega
      clear own3 hrg3 hnx3 IL
      cases lb
      · go_wp2
        go_roundw
        case rel => exact ⟨_, cnt2, n, ss, a, cap, rfl, hrg4, by omega, own4, HN.out trivial, hsz4, hnx4⟩
        case measure => rw [hrg4.left_eq, hrg.left_eq]; exact hlt
      · have kR : Below w4.heap.size w4 (w4.alloc (.cells #[.int .i64 et] 2)) := (Below.refl _ _).alloc (Nat.le_refl _) _
        have own5 := owns_below own4 kR
        have hrg5 := hrg4.alloc (.cells #[.int .i64 et] 2)
        have hC5 := new_int w4 et 2
        have hb5 : w.heap.size + 1 ≤ (w4.alloc (.cells #[.int .i64 et] 2)).heap.size := by simp; omega
        have hnx5 := hnx4.trans (kR.mono hnx4.size)
        have hsz5 : w.heap.size < (w4.alloc (.cells #[.int .i64 et] 2)).heap.size := by simp; omega
        go_wp2_with (at_builtin; go_must (refine wpList_appX Try.underlying26 Try.underlying26 hi0 hz0 hz1 hz2 rfl (by omega) (by omega) (.tmp 15) (.tmp 17) ?_ ?_ (w.heap.size + 1) (.slice a n cap) n (icells ss) _ 1 1 (icells [et]) ?_ ?_ own5 hC5 (icells_one' [et]) (by omega) hb5 ?_; exact rfl; exact rfl; exact rfl; exact rfl; intro a6 c6 w6 own6 gr6 at6; go_frame))
        have hrg6 := hrg5.kept gr6 (row_ne_low own5 (by omega)) (row_ne_iter own5 hrg5)
        go_roundw
        case rel => exact ⟨_, cnt2, n + 1, ss ++ [et], a6, c6, rfl, hrg6, by omega, by rw [icells_append]; exact own6, HY.out trivial, Nat.lt_of_lt_of_le hsz5 gr6.size, hnx5.grown gr6 hnx5.size (fun g hg => by have := (owns_lt own5 g hg).1; omega)⟩
        case measure => rw [hrg6.left_eq, hrg.left_eq]; exact hlt
end Go.Proofs.Ytoijjjckdggglaa
