
/- The pairs of a map, in their order. -/
import Derived.Test.YthfanfnbjldddaaGreatMz3
import Derived.Test.YthfanfnbjldddaaGreatMz5
import Derived.Test.YthfanfnbjldddaaGreatAppX
import Derived.Maps.RangeWalk
namespace Go.Proofs.YthfanfnbjldddaaGreat
open Go.RowKit Go.Maps Go.Sort

/-- What a map of pairs holds: just these, each under its key. -/
structure MpP (ps : List Ch.Hold) (D : DataW Unit) : Prop where
  has : ∀ p ∈ ps, Maps.has D (kk p.m) = true ∧ ∀ z, D.atKey (kk p.m) z = prD p
  only : ∀ kl, Maps.has D kl = true → ∃ p ∈ ps, kl = kk p.m
  nd : (Ch.keysOf ps).Nodup
theorem MpK.all {ps : List Ch.Hold} {D : DataW Unit} (h : MpK ps ps.length D) (hn : (Ch.keysOf ps).Nodup) : MpP ps D := by
  refine ⟨fun p hp => ?_, fun kl hk => ?_, hn⟩
  · obtain ⟨j, hj, rfl⟩ := Ch.mem_getD hp
    exact ⟨h.has j hj, fun z => h.val (by rw [List.take_length]; exact hn) j hj z⟩
  · obtain ⟨j, hj, rfl⟩ := h.only kl hk
    exact ⟨_, Ch.getD_mem' hj, rfl⟩
theorem Ch.key_one {ps : List Ch.Hold} (hn : (Ch.keysOf ps).Nodup) {p q : Ch.Hold} (hp : p ∈ ps) (hq : q ∈ ps) (he : p.m = q.m) : p = q := by
  induction ps with
  | nil => cases hp
  | cons x ps ih =>
    unfold Ch.keysOf at hn ih
    rw [List.map_cons, List.nodup_cons] at hn
    rcases List.mem_cons.1 hp with rfl | hp'
    · rcases List.mem_cons.1 hq with rfl | hq'
      · rfl
      · exact absurd (List.mem_map.2 ⟨q, hq', he.symm⟩) hn.1
    · rcases List.mem_cons.1 hq with rfl | hq'
      · exact absurd (List.mem_map.2 ⟨p, hp', he⟩) hn.1
      · exact ih hn.2 hp' hq'
theorem MpP.del {ps : List Ch.Hold} {D : DataW Unit} (h : MpP ps D) (key : Int) : MpP (ps.filter fun p => p.m != key) (D.del (kk key)) := by
  refine ⟨fun p hp => ?_, fun kl hk => ?_, ?_⟩
  · obtain ⟨hp, hne⟩ := List.mem_filter.1 hp
    have hne : p.m ≠ key := by simpa using hne
    obtain ⟨h1, h2⟩ := h.has p hp
    exact ⟨by rw [has_del_other (kk_ne hne)]; exact h1, fun z => by rw [atKey_del_other (kk_ne hne)]; exact h2 z⟩
  · by_cases e : kl = kk key
    · rw [e, has_del_same] at hk; cases hk
    · rw [has_del_other e] at hk
      obtain ⟨p, hp, rfl⟩ := h.only kl hk
      exact ⟨p, List.mem_filter.2 ⟨hp, by simpa using fun e2 => e (by rw [e2])⟩, rfl⟩
  · unfold Ch.keysOf
    exact h.nd.sublist (List.filter_sublist.map _)
theorem MpP.put {ps : List Ch.Hold} {D : DataW Unit} (h : MpP ps D) (hD : IsMap D) (p : Ch.Hold) (hn : ∀ q ∈ ps, q.m ≠ p.m) : MpP (ps ++ [p]) (D.put (kk p.m) (prD p)) := by
  refine ⟨fun q hq => ?_, fun kl hk => ?_, ?_⟩
  · rcases List.mem_append.1 hq with hq | hq
    · obtain ⟨h1, h2⟩ := h.has q hq
      exact ⟨by rw [has_put_other (kk_ne (hn q hq))]; exact h1, fun z => by rw [atKey_put_other (kk_ne (hn q hq))]; exact h2 z⟩
    · rw [List.mem_singleton] at hq
      subst hq
      exact ⟨has_put_same hD (kk_isKey _) _, fun z => atKey_put_same hD (kk_isKey _) _ z⟩
  · by_cases e : kl = kk p.m
    · exact ⟨p, by simp, e⟩
    · rw [has_put_other e] at hk
      obtain ⟨q, hq, hx⟩ := h.only kl hk
      exact ⟨q, by simp [hq], hx⟩
  · unfold Ch.keysOf
    rw [List.map_append, List.nodup_append]
    refine ⟨h.nd, by simp, fun a ha b hb => ?_⟩
    obtain ⟨q, hq, rfl⟩ := List.mem_map.1 ha
    simp at hb
    subst hb
    exact hn q hq
/-- What has come of the map so far. -/
structure CollP (ps : List Ch.Hold) (left : Lit → Bool) (ss : List Ch.Hold) : Prop where
  sub : ∀ kl, left kl = true → ∃ p ∈ ps, kl = kk p.m
  nd : ss.Nodup
  mem : ∀ p ∈ ps, (p ∈ ss ↔ left (kk p.m) = false)
  inn : ∀ p ∈ ss, p ∈ ps
theorem CollP.start {ps : List Ch.Hold} {D : DataW Unit} (h : MpP ps D) : CollP ps (Maps.has D) [] :=
  ⟨h.only, List.nodup_nil, fun p hp => by rw [(h.has p hp).1]; simp, fun p hp => by simp at hp⟩
theorem CollP.step {ps ss : List Ch.Hold} {left : Lit → Bool} (h : CollP ps left ss) (hn : (Ch.keysOf ps).Nodup) {p : Ch.Hold} (hp : p ∈ ps) (hl : left (kk p.m) = true) : CollP ps (fun z => left z && !z.sameKey (kk p.m)) (ss ++ [p]) := by
  have hnew : p ∉ ss := fun hx => by have := (h.mem p hp).1 hx; rw [hl] at this; cases this
  refine ⟨fun kl hk => h.sub kl (by simp at hk; exact hk.1), List.nodup_append.2 ⟨h.nd, by simp, fun a ha b hb => by simp at hb; subst hb; exact fun e1 => hnew (e1 ▸ ha)⟩, fun x hx => ?_, fun x hx => ?_⟩
  · by_cases hxe : x = p
    · subst hxe
      rw [WideAt.sameKey_self (kk_isKey _)]
      simp
    · have hne : kk x.m ≠ kk p.m := kk_ne fun hc => hxe (Ch.key_one hn hx hp hc)
      rw [sameKey_ne hne]
      simp [h.mem x hx, hxe]
  · rcases List.mem_append.1 hx with hx | hx
    · exact h.inn x hx
    · rw [List.mem_singleton.1 hx]; exact hp
theorem CollP.done {ps ss ys : List Ch.Hold} {left : Lit → Bool} (h : CollP ps left ss) (hl : ∀ kl, left kl = false) (hp : ys.Perm ss) (hs : ys.Pairwise (fun a b => Ch.ltE b a = false)) : ys = Ch.sortE ps := by
  refine Ch.sort_same ?_ (Ch.sortE_sort ps) fun x => ?_
  · have nd : ys.Nodup := hp.nodup_iff.2 h.nd
    unfold Ch.SortE
    refine (hs.and nd).imp ?_
    rintro a b ⟨h1, h2⟩
    exact Ch.ltE_total h1 (fun e => h2 e.symm)
  · rw [Ch.sortE_mem, hp.mem_iff]
    exact ⟨h.inn x, fun hx => (h.mem x hx).2 (hl _)⟩

set_option maxRecDepth 20000 in
set_option maxHeartbeats 4000000 in
theorem sortedP_any (b q : Nat) (D : DataW Unit) (ps : List Ch.Hold) (w : World) (own : w.ownsMap Tryz.prog 2 plElem b q D) (mp : MpP ps D) (hq : Maps.size D ≤ 1048576) :
    Calls Tryz.prog 33 #[.map (some b)] w fun e w' => ∃ a n cap, e = .returned (.slice a n cap) ∧ n ≤ 1048576 ∧ w'.ownsRow w.heap.size 55 2 (.slice a n cap) n (hcells (Ch.sortE ps)) ∧ Below w.heap.size w w' := by
  obtain ⟨i0, hi0, hz0, hz1, hz2⟩ := info_parts Tryz.info55
  have hbl := own.lt
  have HMP := hid mp
  clear mp
  go_enter Tryz.func33, Tryz.ntmps33
  go_wp2_with (at_range; go_must (refine wpList_range_own _ rfl _ 70 rfl 2 55 Tryz.keyed Tryz.underlying70 plElem b q D rfl own ?_; intro w0 hrg0 hg0 hs0))
  go_frame
  have b0 : Below w.heap.size w w0 := (Below.refl _ _).grown hg0 (Nat.le_refl _) (fun j hj => by cases hj)
  have hsz0 : w.heap.size < w0.heap.size := by omega
  clear hs0
  go_loopw [3] (fun v wr => ∃ (left : Lit → Bool) (cnt n : Nat) (ss : List Ch.Hold) (a : Option Addr) (cap : Nat), v = .slice a n cap ∧ wr.ranges Tryz.prog 2 plElem b w.heap.size q D left cnt ∧ n + cnt ≤ Maps.size D ∧
      wr.ownsRow (w.heap.size + 1) 55 2 (.slice a n cap) n (hcells ss) ∧ CollP ps left ss ∧ w.heap.size < wr.heap.size ∧ Below w.heap.size w wr)
    (fun _ wr => wr.rangeLeft b w.heap.size)
  case atStart => exact ⟨_, _, 0, [], none, 0, rfl, hrg0, by omega, World.ownsRow_nil _ _ _ _, CollP.start HMP.out, hsz0, b0⟩
  case round =>
    clear hrg0 hg0 b0 hsz0
    obtain ⟨left, cnt, n, ss, a, cap, rfl, hrg, hcs, hrow, hC, hsz, hnx⟩ := hrel
    go_wp2_with (at_next; go_must (refine wpList_next_ranges _ rfl _ rfl 2 Tryz.keyed plElem id id (fun key _ _ => ⟨key, rfl⟩) (fun v _ _ => ⟨v, rfl⟩) b w.heap.size q _ _ _ rfl hrg ?_ ?_))
    · intro hc0 hl0
      rcases hrow.2 with ⟨hnil, _⟩ | ⟨g, cap', cur, hv, _⟩
      · cases hnil
        obtain rfl : ss = [] := by
          have := hrow.1
          rw [hcells_len] at this
          exact List.eq_nil_of_length_eq_zero (by omega)
        have HS := hid (hC.done hl0 (List.Perm.refl _) (by simp))
        go_wp2_with (go_at_call 20; refine (sortPN_any _ _ _ _).mono ?_; rintro e w' ⟨rfl, rfl⟩)
        go_ret
        exact ⟨none, 0, 0, rfl, by omega, by rw [← HS.out]; exact World.ownsRow_nil _ _ _ _, hnx⟩
      · cases hv
        have hcon := sortP_any (w.heap.size + 1) g n cap ss wr hrow (by omega)
        have hgb := (owns_bounds hrow).1
        go_wp2_with (go_at_call 20; refine hcon.mono ?_; rintro e w' ⟨rfl, ⟨ys, hp, hs, own'⟩, gr'⟩)
        go_ret
        exact ⟨_, n, cap, rfl, by omega, by rw [← hC.done hl0 hp hs]; exact owns_base own' (by omega), hnx.grown gr' hnx.size (fun j hj => by cases hj; omega)⟩
    · intro x c kl yd yp w2 cnt2 hkey hlk hv hat hrg2 hlt hg2 hs2 hen
      obtain ⟨⟨et, em⟩, he, rfl⟩ := hC.sub kl hlk
      have HC2 := hid (hC.step HMP.out.nd he hlk)
      have hyd := (HMP.out.has _ he).2 (.agg [])
      have hc : c = .agg #[.int .i64 et, .int .i64 em] := by
        have e1 := hat (.agg [])
        rw [hyd] at e1
        rw [← e1] at hv
        exact plElem_inv hv
      subst hc
      have hrow2 := hrow.kept hg2 (Or.inr (row_ne_iter hrow hrg).symm)
      have hnx2 := hnx.grown hg2 hnx.size (fun j hj => by cases hj; exact Nat.le_refl _)
      have hsz2 : w.heap.size < w2.heap.size := by omega
      clear hs2 hkey hv hat hrow hC
      have kQ : Below w2.heap.size w2 ((w2.alloc (.cells #[.int .i64 et, .int .i64 em] 55)).alloc (.cells #[.int .i64 et, .int .i64 em] 55)) := ((Below.refl _ _).alloc (Nat.le_refl _) _).alloc (by simp) _
      have own3 := owns_below hrow2 kQ
      have hrg3 := (hrg2.alloc (.cells #[.int .i64 et, .int .i64 em] 55)).alloc (.cells #[.int .i64 et, .int .i64 em] 55)
      have hC3 := new_hold (w2.alloc (.cells #[.int .i64 et, .int .i64 em] 55)) et em 55
      rw [show (w2.alloc (.cells #[.int .i64 et, .int .i64 em] 55)).heap.size = w2.heap.size + 1 by simp] at hC3
      have hb3 : w.heap.size + 1 ≤ ((w2.alloc (.cells #[.int .i64 et, .int .i64 em] 55)).alloc (.cells #[.int .i64 et, .int .i64 em] 55)).heap.size := by simp; omega
      have hnx3 := hnx2.trans (kQ.mono hnx2.size)
      have hsz3 : w.heap.size < ((w2.alloc (.cells #[.int .i64 et, .int .i64 em] 55)).alloc (.cells #[.int .i64 et, .int .i64 em] 55)).heap.size := by simp; omega
      go_wp2_with (at_builtin; go_must (refine wpList_appX Tryz.underlying27 Tryz.underlying27 hi0 hz0 hz1 hz2 rfl (by omega) (by omega) (.tmp 12) (.tmp 14) ?_ ?_ (w.heap.size + 1) (.slice a n cap) n (hcells ss) _ 1 1 (hcells [⟨et, em⟩]) ?_ ?_ own3 hC3 (hcells_one' _) (by omega) hb3 ?_; exact rfl; exact rfl; exact rfl; exact rfl; intro a5 c5 w5 own5 gr5 at5; go_frame))
      have hrg5 := hrg3.kept gr5 (row_ne_low own3 (by omega)) (row_ne_iter own3 hrg3)
      go_roundw
      case rel => exact ⟨_, cnt2, n + 1, ss ++ [⟨et, em⟩], a5, c5, rfl, hrg5, by omega, by rw [hcells_append]; exact own5, HC2.out, Nat.lt_of_lt_of_le hsz3 gr5.size, hnx3.grown gr5 hnx3.size (fun g hg => by have := (owns_lt own3 g hg).1; omega)⟩
      case measure => rw [hrg5.left_eq, hrg.left_eq]; exact hlt
end Go.Proofs.YthfanfnbjldddaaGreat
