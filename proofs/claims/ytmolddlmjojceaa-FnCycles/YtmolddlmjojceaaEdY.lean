
/- (impl.edgeSet).sorted. -/
import Derived.Test.YtmolddlmjojceaaAppX
import Derived.Test.YtmolddlmjojceaaEdN
import Derived.Sort.OwnSorted
namespace Go.Proofs.Ytmolddlmjojceaa
open Go.RowKit Go.Maps Go.Sort

def RngE (es : List Ch.Hold) : Prop := ∀ e ∈ es, (1 ≤ e.t ∧ e.t ≤ 999) ∧ (1 ≤ e.m ∧ e.m ≤ 999)
/-- What has come of the set so far. -/
structure CollE (es : List Ch.Hold) (left : Lit → Bool) (ss : List Ch.Hold) : Prop where
  sub : ∀ kl, left kl = true → ∃ e ∈ es, kl = ke e.t e.m
  nd : ss.Nodup
  mem : ∀ e ∈ es, (e ∈ ss ↔ left (ke e.t e.m) = false)
  inn : ∀ e ∈ ss, e ∈ es
theorem CollE.start {es : List Ch.Hold} {D : DataW Unit} (h : MpE es D) : CollE es (Maps.has D) [] :=
  ⟨h.only, List.nodup_nil, fun e he => by rw [h.has e he]; simp, fun e he => by simp at he⟩
theorem CollE.step {es ss : List Ch.Hold} {left : Lit → Bool} (h : CollE es left ss) (hr : RngE es) (W : World) {e : Ch.Hold} (he : e ∈ es) (hl : left (ke e.t e.m) = true) : CollE es (fun z => left z && !z.sameKey (ke e.t e.m)) (ss ++ [e]) := by
  have hnew : e ∉ ss := fun hx => by have := (h.mem e he).1 hx; rw [hl] at this; cases this
  refine ⟨fun kl hk => h.sub kl (by simp at hk; exact hk.1), List.nodup_append.2 ⟨h.nd, by simp, fun a ha b hb => by simp at hb; subst hb; exact fun e1 => hnew (e1 ▸ ha)⟩, fun x hx => ?_, fun x hx => ?_⟩
  · by_cases hxe : x = e
    · subst hxe
      rw [WideAt.sameKey_self (ke_isKey _ _)]
      simp
    · have hne : ke x.t x.m ≠ ke e.t e.m := ke_ne W (hr x hx).1 (hr x hx).2 (hr e he).1 (hr e he).2 (fun hc => hxe (by cases x; cases e; simp at hc; simp [hc]))
      rw [sameKey_ne hne]
      simp [h.mem x hx, hxe]
  · rcases List.mem_append.1 hx with hx | hx
    · exact h.inn x hx
    · rw [List.mem_singleton.1 hx]; exact he
theorem CollE.done {es ss ys : List Ch.Hold} {left : Lit → Bool} (h : CollE es left ss) (hl : ∀ kl, left kl = false) (hp : ys.Perm ss) (hs : ys.Pairwise (fun a b => Ch.ltE b a = false)) : ys = Ch.sortE es := by
  refine Ch.sort_same ?_ (Ch.sortE_sort es) fun x => ?_
  · have nd : ys.Nodup := hp.nodup_iff.2 h.nd
    unfold Ch.SortE
    refine (hs.and nd).imp ?_
    rintro a b ⟨h1, h2⟩
    exact Ch.ltE_total h1 (fun e => h2 e.symm)
  · rw [Ch.sortE_mem, hp.mem_iff]
    exact ⟨h.inn x, fun hx => (h.mem x hx).2 (hl _)⟩

set_option maxRecDepth 20000 in
set_option maxHeartbeats 4000000 in
theorem sorted_any (b q : Nat) (D : DataW Unit) (es : List Ch.Hold) (w : World) (own : w.ownsMap Try.prog 33 unitElem b q D) (mp : MpE es D) (hr : RngE es) (hq : Maps.size D ≤ 1048576) :
    Calls Try.prog 17 #[.map (some b)] w fun e w' => ∃ a n cap, e = .returned (.slice a n cap) ∧ n ≤ 1048576 ∧ w'.ownsRow w.heap.size 33 2 (.slice a n cap) n (hcells (Ch.sortE es)) ∧ Below w.heap.size w w' := by
  obtain ⟨i0, hi0, hz0, hz1, hz2⟩ := info_parts Try.info33
  have hbl := own.lt
  have HMP := hid mp
  have HR := hid hr
  clear mp hr
  go_enter Try.func17, Try.ntmps17
  go_wp2_with (at_range; go_must (refine wpList_range_own _ rfl _ 42 rfl 33 66 Try.keyedE Try.underlying42 unitElem b q D rfl own ?_; intro w0 hrg0 hg0 hs0))
  go_frame
  have b0 : Below w.heap.size w w0 := (Below.refl _ _).grown hg0 (Nat.le_refl _) (fun j hj => by cases hj)
  have hsz0 : w.heap.size < w0.heap.size := by omega
  clear hs0
  go_loopw [3] (fun v wr => ∃ (left : Lit → Bool) (cnt n : Nat) (ss : List Ch.Hold) (a : Option Addr) (cap : Nat), v = .slice a n cap ∧ wr.ranges Try.prog 33 unitElem b w.heap.size q D left cnt ∧ n + cnt ≤ Maps.size D ∧
      wr.ownsRow (w.heap.size + 1) 33 2 (.slice a n cap) n (hcells ss) ∧ CollE es left ss ∧ w.heap.size < wr.heap.size ∧ Below w.heap.size w wr)
    (fun _ wr => wr.rangeLeft b w.heap.size)
  case atStart => exact ⟨_, _, 0, [], none, 0, rfl, hrg0, by omega, World.ownsRow_nil _ _ _ _, CollE.start HMP.out, hsz0, b0⟩
  case round =>
    clear hrg0 hg0 b0 hsz0
    obtain ⟨left, cnt, n, ss, a, cap, rfl, hrg, hcs, hrow, hC, hsz, hnx⟩ := hrel
    go_wp2_with (at_next; go_must (refine wpList_next_ranges _ rfl _ rfl 33 Try.keyedE unitElem id id (fun key _ _ => ⟨key, rfl⟩) (fun v _ _ => ⟨v, rfl⟩) b w.heap.size q _ _ _ rfl hrg ?_ ?_))
    · intro hc0 hl0
      rcases hrow.2 with ⟨hnil, _⟩ | ⟨g, cap', cur, hv, _⟩
      · cases hnil
        obtain rfl : ss = [] := by
          have := hrow.1
          rw [hcells_len] at this
          exact List.eq_nil_of_length_eq_zero (by omega)
        have HS := hid (hC.done hl0 (List.Perm.refl _) (by simp))
        go_wp2_with (go_at_call 31; refine (sortN_any _ _ _ _).mono ?_; rintro e w' ⟨rfl, rfl⟩)
        go_ret
        exact ⟨none, 0, 0, rfl, by omega, by rw [← HS.out]; exact World.ownsRow_nil _ _ _ _, hnx⟩
      · cases hv
        have hcon := sortE_any (w.heap.size + 1) g n cap ss wr hrow (by omega)
        have hgb := (owns_bounds hrow).1
        go_wp2_with (go_at_call 31; refine hcon.mono ?_; rintro e w' ⟨rfl, ⟨ys, hp, hs, own'⟩, gr'⟩)
        go_ret
        exact ⟨_, n, cap, rfl, by omega, by rw [← hC.done hl0 hp hs]; exact owns_base own' (by omega), hnx.grown gr' hnx.size (fun j hj => by cases hj; omega)⟩
    · intro x c kl yd yp w2 cnt2 hkey hlk hv hat hrg2 hlt hg2 hs2 hen
      obtain ⟨⟨et, em⟩, he, rfl⟩ := hC.sub kl hlk
      have HC2 := hid (hC.step HR.out w he hlk)
      have hx : x = .agg #[.int .i64 et, .int .i64 em] := Try.keyedE.inj hkey (ke_key w (HR.out _ he).1 (HR.out _ he).2)
      subst hx
      have hrow2 := hrow.kept hg2 (Or.inr (row_ne_iter hrow hrg).symm)
      have hnx2 := hnx.grown hg2 hnx.size (fun j hj => by cases hj; exact Nat.le_refl _)
      have hsz2 : w.heap.size < w2.heap.size := by omega
      clear hs2 hkey hv hat hrow hC
      have kQ : Below w2.heap.size w2 ((w2.alloc (.cells #[.int .i64 et, .int .i64 em] 33)).alloc (.cells #[.int .i64 et, .int .i64 em] 33)) := ((Below.refl _ _).alloc (Nat.le_refl _) _).alloc (by simp) _
      have own3 := owns_below hrow2 kQ
      have hrg3 := (hrg2.alloc (.cells #[.int .i64 et, .int .i64 em] 33)).alloc (.cells #[.int .i64 et, .int .i64 em] 33)
      have hC3 := new_hold (w2.alloc (.cells #[.int .i64 et, .int .i64 em] 33)) et em 33
      rw [show (w2.alloc (.cells #[.int .i64 et, .int .i64 em] 33)).heap.size = w2.heap.size + 1 by simp] at hC3
      have hb3 : w.heap.size + 1 ≤ ((w2.alloc (.cells #[.int .i64 et, .int .i64 em] 33)).alloc (.cells #[.int .i64 et, .int .i64 em] 33)).heap.size := by simp; omega
      have hnx3 := hnx2.trans (kQ.mono hnx2.size)
      have hsz3 : w.heap.size < ((w2.alloc (.cells #[.int .i64 et, .int .i64 em] 33)).alloc (.cells #[.int .i64 et, .int .i64 em] 33)).heap.size := by simp; omega
      go_wp2_with (at_builtin; go_must (refine wpList_appX Try.underlying24 Try.underlying24 hi0 hz0 hz1 hz2 rfl (by omega) (by omega) (.tmp 11) (.tmp 13) ?_ ?_ (w.heap.size + 1) (.slice a n cap) n (hcells ss) _ 1 1 (hcells [⟨et, em⟩]) ?_ ?_ own3 hC3 (hcells_one' _) (by omega) hb3 ?_; exact rfl; exact rfl; exact rfl; exact rfl; intro a5 c5 w5 own5 gr5 at5; go_frame))
      have hrg5 := hrg3.kept gr5 (row_ne_low own3 (by omega)) (row_ne_iter own3 hrg3)
      go_roundw
      case rel => exact ⟨_, cnt2, n + 1, ss ++ [⟨et, em⟩], a5, c5, rfl, hrg5, by omega, by rw [hcells_append]; exact own5, HC2.out, Nat.lt_of_lt_of_le hsz3 gr5.size, hnx3.grown gr5 hnx3.size (fun g hg => by have := (owns_lt own3 g hg).1; omega)⟩
      case measure => rw [hrg5.left_eq, hrg.left_eq]; exact hlt
end Go.Proofs.Ytmolddlmjojceaa
