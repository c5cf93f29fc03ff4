/- Several texts in one: EdX, EdN, EdY. -/
import Derived.Test.YtjagobcogkdfhaaEdW
import Derived.Sort.OwnSorted


/- slices.SortFunc of edges at a list of one's own. -/
namespace Go.Proofs.Ytjagobcogkdfhaa
open Go.RowKit Go.Maps Go.Sort

theorem flat_hcells (xs : List Ch.Hold) : (flatK encE 2 xs.toArray).toList = hcells xs := by
  apply List.ext_getElem?
  intro i
  by_cases hi : i < xs.length * 2
  · have h1 : i / 2 < xs.length := by omega
    obtain ⟨a0, a1⟩ := hcells_at xs (i / 2) h1
    have hx : xs.toArray[i / 2]! = xs.getD (i / 2) Ch.Hold.zero := by
      rw [getElem!_pos xs.toArray (i / 2) (by simpa using h1)]
      simp [List.getD, h1]
    have hl : (flatK encE 2 xs.toArray).toList[i]? = some ((encE (xs.getD (i / 2) Ch.Hold.zero))[i % 2]!) := by
      rw [Array.getElem?_toList]
      simp only [flatK, Array.getElem?_map, List.size_toArray]
      rw [Array.getElem?_range, if_pos hi]
      simp only [Option.map_some, hx]
    rw [hl]
    have h2 : i % 2 = 0 ∨ i % 2 = 1 := by omega
    rcases h2 with h2 | h2
    · have e : (hcells xs)[i]? = (hcells xs)[i / 2 * 2]? := by congr 1; omega
      rw [e, a0, h2]; rfl
    · have e : (hcells xs)[i]? = (hcells xs)[i / 2 * 2 + 1]? := by congr 1; omega
      rw [e, a1, h2]; rfl
  · rw [List.getElem?_eq_none (by simp [flatK]; omega), List.getElem?_eq_none (by rw [hcells_len]; omega)]
theorem heap_sortedE {w : World} {g n : Nat} {os : Array Obj} {cur : Array Value} {e : TypeId} {fr : Nat × Nat} (F : Array Value) (hb : w.heap[g]? = some (.cells cur e fr)) :
    (grow (putRow id (Sort.ahead w n) g 0 F) os).heap[g]? = some (.cells (putCells id 0 F cur) e fr) := by
  have hg : g < w.heap.size := (Array.getElem?_eq_some_iff.1 hb).1
  rw [heap_grow_old _ _ (by simpa using hg)]
  simp [putRow, mapBlock, Sort.ahead, Array.getElem?_modify, hb, onCells]
theorem grownBy_sortedE {w : World} {g n : Nat} {os : Array Obj} (F : Array Value) : w.grownBy (grow (putRow id (Sort.ahead w n) g 0 F) os) (some g) := by
  refine ⟨rfl, rfl, rfl, by simp, fun k hk hne => ?_⟩
  rw [heap_grow_old _ _ (by simpa using hk)]
  have : g ≠ k := fun e => hne (by rw [e])
  simp [putRow, mapBlock, Sort.ahead, Array.getElem?_modify, this]
theorem take_putCellsE (cur F : Array Value) (h : F.size ≤ cur.size) : (putCells id 0 F cur).toList.take F.size = F.toList := by
  apply List.ext_getElem?
  intro j
  by_cases hj : j < F.size
  · rw [List.getElem?_take_of_lt hj, Array.getElem?_toList]
    simp [putCells, hj, show j < cur.size by omega]
  · rw [List.getElem?_take_eq_none (by omega), List.getElem?_eq_none (by simp; omega)]
theorem holdsE {w : World} {g : Nat} {cur : Array Value} {e : TypeId} {F : Array Value} (hb : w.heap[g]? = some (.cells cur e (0, 0))) (ht : cur.toList.take F.size = F.toList) : Holds id w g 0 F := by
  intro j hj
  refine ⟨?_, by simp [World.frozen?, hb]⟩
  have h1 : (cur.toList.take F.size)[j]? = F.toList[j]? := by rw [ht]
  rw [List.getElem?_take_of_lt hj] at h1
  simp only [World.cell?, hb, Nat.zero_add]
  simp only [Option.isSome_none, Bool.false_eq_true, if_false]
  rw [← Array.getElem?_toList, h1]
  simp [hj]

set_option maxRecDepth 100000 in
theorem sortE_any (B g n cap : Nat) (xs : List Ch.Hold) (w : World) (own : w.ownsRow B 46 2 (.slice (some ⟨g, 0, none⟩) n cap) n (hcells xs)) (hn : n ≤ 4194304) :
    Calls Try.prog 154 #[.slice (some ⟨g, 0, none⟩) n cap, .func (.func 155) #[] #[]] w fun e w' => e = .returned (.tuple #[]) ∧ (∃ ys : List Ch.Hold, ys.Perm xs ∧ ys.Pairwise (fun a b => Ch.ltE b a = false) ∧ w'.ownsRow B 46 2 (.slice (some ⟨g, 0, none⟩) n cap) n (hcells ys)) ∧ w.grownBy w' (some g) := by
  have eg : ∀ args w, (callFunc 155 args).run Try.prog w = .ok (.enter 155 args) w := enters_of Try.func155 (by kernel_rfl) rfl
  have hl : xs.length = n := by
    have := own.1
    rw [hcells_len] at this
    omega
  subst hl
  rcases own.2 with ⟨hnil, _⟩ | ⟨g', cap', cur, hv, hbase, hb, h1, h2, h3, h4⟩
  · cases hnil
  cases hv
  have hFs : ∀ ys : List Ch.Hold, (flatK encE 2 ys.toArray).size = ys.length * 2 := fun ys => by simp [flatK]
  have hH : HoldsK encE 2 w g 0 xs.toArray := holdsE hb (by rw [hFs, flat_hcells]; exact h4)
  have hcon := AnyQ.slices_SortFunc Try.sortEdges 2 Try.isAgg46 Try.sizeOf46 encE (fun _ => rfl) (fun x v hv => by simp [encE] at hv; rcases hv with rfl | rfl <;> rfl) cfE swoE 155 #[] g 0 cap xs.toArray w eg (cmpLaysE g 0 _ w) hH (Array.getElem?_eq_some_iff.1 hb).1 (by simp; omega)
  rw [List.size_toArray] at hcon
  refine Calls.mono hcon ?_
  rintro e w' ⟨rfl, d', nn, os, hp, hs, rfl⟩
  obtain ⟨ys, rfl⟩ : ∃ ys : List Ch.Hold, d' = ys.toArray := ⟨d'.toList, by simp⟩
  obtain ⟨hp1, _, hp3⟩ := hp
  have hyl : ys.length = xs.length := by simpa using hp1
  have hperm : ys.Perm xs := by
    have e1 : (ys.toArray.extract 0 xs.length).toList = ys := by simp [← hyl]
    have e2 : (xs.toArray.extract 0 xs.length).toList = xs := by simp
    rw [e1, e2] at hp3
    exact hp3
  refine ⟨rfl, ⟨ys, hperm, ?_, ?_⟩, grownBy_sortedE _⟩
  · rw [List.pairwise_iff_getElem]
    intro i j hi hj hij
    have := hs i j (Nat.zero_le _) hij (by omega)
    rw [ltE_of, getElem!_pos ys.toArray j (by simpa using hj), getElem!_pos ys.toArray i (by simpa using hi)] at this
    simpa using this
  · refine ⟨by rw [hcells_len]; omega, .inr ⟨g, cap, _, rfl, hbase, heap_sortedE _ hb, h1, h2, ?_, ?_⟩⟩
    · simp [putCells, h3]
    · have := take_putCellsE cur (flatK encE 2 ys.toArray) (by rw [hFs]; omega)
      rw [hFs, hyl, flat_hcells] at this
      exact this
end Go.Proofs.Ytjagobcogkdfhaa


/- slices.SortFunc of no edges. -/
namespace Go.Proofs.Ytjagobcogkdfhaa
open Go.Shelf Go.RowKit Go.Maps Go.Lib Go.Sort

set_option maxHeartbeats 1000000 in
theorem insN_any (p : Option Addr) (cap : Nat) (fv : Value) (w : World) : Calls Try.prog 219 #[.slice p 0 cap, .int .i64 0, .int .i64 0, fv] w fun e w' => e = .returned (.tuple #[]) ∧ w' = w := by
  go_enter Try.func219, Try.ntmps219
  go_wp2
  refine wp_loop_rounds 1 ?_
  rw [rounds_succ]
  go_wp2
  go_end0
  exact ⟨rfl, rfl⟩
set_option maxHeartbeats 2000000 in
theorem pdqN_any (p : Option Addr) (cap : Nat) (lim : Int) (fv : Value) (w : World) : Calls Try.prog 186 #[.slice p 0 cap, .int .i64 0, .int .i64 0, .int .i64 lim, fv] w fun e w' => e = .returned (.tuple #[]) ∧ w' = w := by
  have hi := fun W => insN_any p cap fv W
  go_enter Try.func186, Try.ntmps186
  go_wp2
  refine wp_loop_rounds 1 ?_
  rw [rounds_succ]
  go_wp2_with (go_at_call 219; refine (hi _).mono ?_; rintro e w' ⟨rfl, rfl⟩)
  (try simp only [Exit.inBlock, Exit.then]); refine bodyPost_ret (results_none rfl _ _ _) rfl ?_
  exact ⟨rfl, rfl⟩
set_option maxHeartbeats 2000000 in
theorem lenN_any (w : World) : Calls Try.prog 187 #[.int .u64 0] w fun e w' => e = .returned (.int .i64 0) ∧ w' = w := by
  have h := Any.bits_Len (SlLaysF0.n15.bits (P := Try.prog) { Try.sortEdges with }) 0 w (by omega) (by omega)
  exact h
set_option maxHeartbeats 1000000 in
theorem sortN_any (p : Option Addr) (cap : Nat) (fv : Value) (w : World) : Calls Try.prog 154 #[.slice p 0 cap, fv] w fun e w' => e = .returned (.tuple #[]) ∧ w' = w := by
  have hp := fun lim W => pdqN_any p cap lim fv W
  have hl := fun W => lenN_any W
  go_enter Try.func154, Try.ntmps154
  go_wp2_with (first | (go_at_call 187; refine (hl _).mono ?_; rintro e w' ⟨rfl, rfl⟩) | (go_at_call 186; refine (hp _ _).mono ?_; rintro e w' ⟨rfl, rfl⟩))
  go_end0
  exact ⟨rfl, rfl⟩
end Go.Proofs.Ytjagobcogkdfhaa


/- (impl.edgeSet).sorted. -/
namespace Go.Proofs.Ytjagobcogkdfhaa
open Go.RowKit Go.Maps Go.Sort

def RngE (es : List Ch.Hold) : Prop := ∀ e ∈ es, (1 ≤ e.t ∧ e.t ≤ 999) ∧ (1 ≤ e.m ∧ e.m ≤ 999)
/-- What has come of the set so far. -/
structure CollE (es : List Ch.Hold) (left : Lit → Bool) (ss : List Ch.Hold) : Prop where
  sub : ∀ kl, left kl = true → ∃ e ∈ es, kl = ke e.t e.m
  nd : ss.Nodup
  mem : ∀ e ∈ es, (e ∈ ss ↔ left (ke e.t e.m) = false)
  inn : ∀ e ∈ ss, e ∈ es
theorem CollE.start {es : List Ch.Hold} {D : DataW Unit} (h : MpE es D) : CollE es (Maps.has D) [] :=
  ⟨h.only, List.nodup_nil, fun e he => by rw [h.has e he]; simp, fun e he => by simp at he⟩
theorem CollE.step {es ss : List Ch.Hold} {left : Lit → Bool} (h : CollE es left ss) (hr : RngE es) (W : World) {e : Ch.Hold} (he : e ∈ es) (hl : left (ke e.t e.m) = true) : CollE es (fun z => left z && !z.sameKey (ke e.t e.m)) (ss ++ [e]) := by
  have hnew : e ∉ ss := fun hx => by have := (h.mem e he).1 hx; rw [hl] at this; cases this
  refine ⟨fun kl hk => h.sub kl (by simp at hk; exact hk.1), List.nodup_append.2 ⟨h.nd, by simp, fun a ha b hb => by simp at hb; subst hb; exact fun e1 => hnew (e1 ▸ ha)⟩, fun x hx => ?_, fun x hx => ?_⟩
  · by_cases hxe : x = e
    · subst hxe
      rw [WideAt.sameKey_self (ke_isKey _ _)]
      simp
    · have hne : ke x.t x.m ≠ ke e.t e.m := ke_ne W (hr x hx).1 (hr x hx).2 (hr e he).1 (hr e he).2 (fun hc => hxe (by cases x; cases e; simp at hc; simp [hc]))
      rw [sameKey_ne hne]
      simp [h.mem x hx, hxe]
  · rcases List.mem_append.1 hx with hx | hx
    · exact h.inn x hx
    · rw [List.mem_singleton.1 hx]; exact he
theorem CollE.done {es ss ys : List Ch.Hold} {left : Lit → Bool} (h : CollE es left ss) (hl : ∀ kl, left kl = false) (hp : ys.Perm ss) (hs : ys.Pairwise (fun a b => Ch.ltE b a = false)) : ys = Ch.sortE es := by
  refine Ch.sort_same ?_ (Ch.sortE_sort es) fun x => ?_
  · have nd : ys.Nodup := hp.nodup_iff.2 h.nd
    unfold Ch.SortE
    refine (hs.and nd).imp ?_
    rintro a b ⟨h1, h2⟩
    exact Ch.ltE_total h1 (fun e => h2 e.symm)
  · rw [Ch.sortE_mem, hp.mem_iff]
    exact ⟨h.inn x, fun hx => (h.mem x hx).2 (hl _)⟩

set_option maxRecDepth 20000 in
set_option maxHeartbeats 4000000 in
theorem sorted_any (b q : Nat) (D : DataW Unit) (es : List Ch.Hold) (w : World) (own : w.ownsMap Try.prog 46 unitElem b q D) (mp : MpE es D) (hr : RngE es) (hq : Maps.size D ≤ 1048576) :
    Calls Try.prog 92 #[.map (some b)] w fun e w' => ∃ a n cap, e = .returned (.slice a n cap) ∧ n ≤ 1048576 ∧ w'.ownsRow w.heap.size 46 2 (.slice a n cap) n (hcells (Ch.sortE es)) ∧ Below w.heap.size w w' := by
  obtain ⟨i0, hi0, hz0, hz1, hz2⟩ := info_parts Try.info46
  have hbl := own.lt
  have HMP := hid mp
  have HR := hid hr
  clear mp hr
  go_enter Try.func92, Try.ntmps92
  go_wp2_with (at_range; go_must (refine wpList_range_own _ rfl _ 126 rfl 46 216 Try.keyedE Try.underlying126 unitElem b q D rfl own ?_; intro w0 hrg0 hg0 hs0))
  go_frame
  have b0 : Below w.heap.size w w0 := (Below.refl _ _).grown hg0 (Nat.le_refl _) (fun j hj => by cases hj)
  have hsz0 : w.heap.size < w0.heap.size := by omega
  clear hs0
  go_loopw [3] (fun v wr => ∃ (left : Lit → Bool) (cnt n : Nat) (ss : List Ch.Hold) (a : Option Addr) (cap : Nat), v = .slice a n cap ∧ wr.ranges Try.prog 46 unitElem b w.heap.size q D left cnt ∧ n + cnt ≤ Maps.size D ∧
      wr.ownsRow (w.heap.size + 1) 46 2 (.slice a n cap) n (hcells ss) ∧ CollE es left ss ∧ w.heap.size < wr.heap.size ∧ Below w.heap.size w wr)
    (fun _ wr => wr.rangeLeft b w.heap.size)
  case atStart => exact ⟨_, _, 0, [], none, 0, rfl, hrg0, by omega, World.ownsRow_nil _ _ _ _, CollE.start HMP.out, hsz0, b0⟩
  case round =>
    clear hrg0 hg0 b0 hsz0
    obtain ⟨left, cnt, n, ss, a, cap, rfl, hrg, hcs, hrow, hC, hsz, hnx⟩ := hrel
    go_wp2_with (at_next; go_must (refine wpList_next_ranges _ rfl _ rfl 46 Try.keyedE unitElem id id (fun key _ _ => ⟨key, rfl⟩) (fun v _ _ => ⟨v, rfl⟩) b w.heap.size q _ _ _ rfl hrg ?_ ?_))
    · intro hc0 hl0
      rcases hrow.2 with ⟨hnil, _⟩ | ⟨g, cap', cur, hv, _⟩
      · cases hnil
        obtain rfl : ss = [] := by
          have := hrow.1
          rw [hcells_len] at this
          exact List.eq_nil_of_length_eq_zero (by omega)
        have HS := hid (hC.done hl0 (List.Perm.refl _) (by simp))
        go_wp2_with (go_at_call 154; refine (sortN_any _ _ _ _).mono ?_; rintro e w' ⟨rfl, rfl⟩)
        go_ret
        exact ⟨none, 0, 0, rfl, by omega, by rw [← HS.out]; exact World.ownsRow_nil _ _ _ _, hnx⟩
      · cases hv
        have hcon := sortE_any (w.heap.size + 1) g n cap ss wr hrow (by omega)
        have hgb := (owns_bounds hrow).1
        go_wp2_with (go_at_call 154; refine hcon.mono ?_; rintro e w' ⟨rfl, ⟨ys, hp, hs, own'⟩, gr'⟩)
        go_ret
        exact ⟨_, n, cap, rfl, by omega, by rw [← hC.done hl0 hp hs]; exact owns_base own' (by omega), hnx.grown gr' hnx.size (fun j hj => by cases hj; omega)⟩
    · intro x c kl yd yp w2 cnt2 hkey hlk hv hat hrg2 hlt hg2 hs2 hen
      obtain ⟨⟨et, em⟩, he, rfl⟩ := hC.sub kl hlk
      have HC2 := hid (hC.step HR.out w he hlk)
      have hx : x = .agg #[.int .i64 et, .int .i64 em] := Try.keyedE.inj hkey (ke_key w (HR.out _ he).1 (HR.out _ he).2)
      subst hx
      have hrow2 := hrow.kept hg2 (Or.inr (row_ne_iter hrow hrg).symm)
      have hnx2 := hnx.grown hg2 hnx.size (fun j hj => by cases hj; exact Nat.le_refl _)
      have hsz2 : w.heap.size < w2.heap.size := by omega
      clear hs2 hkey hv hat hrow hC
      have kQ : Below w2.heap.size w2 ((w2.alloc (.cells #[.int .i64 et, .int .i64 em] 46)).alloc (.cells #[.int .i64 et, .int .i64 em] 46)) := ((Below.refl _ _).alloc (Nat.le_refl _) _).alloc (by simp) _
      have own3 := owns_below hrow2 kQ
      have hrg3 := (hrg2.alloc (.cells #[.int .i64 et, .int .i64 em] 46)).alloc (.cells #[.int .i64 et, .int .i64 em] 46)
      have hC3 := new_hold (w2.alloc (.cells #[.int .i64 et, .int .i64 em] 46)) et em 46
      rw [show (w2.alloc (.cells #[.int .i64 et, .int .i64 em] 46)).heap.size = w2.heap.size + 1 by simp] at hC3
      have hb3 : w.heap.size + 1 ≤ ((w2.alloc (.cells #[.int .i64 et, .int .i64 em] 46)).alloc (.cells #[.int .i64 et, .int .i64 em] 46)).heap.size := by simp; omega
      have hnx3 := hnx2.trans (kQ.mono hnx2.size)
      have hsz3 : w.heap.size < ((w2.alloc (.cells #[.int .i64 et, .int .i64 em] 46)).alloc (.cells #[.int .i64 et, .int .i64 em] 46)).heap.size := by simp; omega
      go_wp2_with (at_builtin; go_must (refine wpList_appX Try.underlying38 Try.underlying38 hi0 hz0 hz1 hz2 rfl (by omega) (by omega) (.tmp 11) (.tmp 13) ?_ ?_ (w.heap.size + 1) (.slice a n cap) n (hcells ss) _ 1 1 (hcells [⟨et, em⟩]) ?_ ?_ own3 hC3 (hcells_one' _) (by omega) hb3 ?_; exact rfl; exact rfl; exact rfl; exact rfl; intro a5 c5 w5 own5 gr5 at5; go_frame))
      have hrg5 := hrg3.kept gr5 (row_ne_low own3 (by omega)) (row_ne_iter own3 hrg3)
      go_roundw
      case rel => exact ⟨_, cnt2, n + 1, ss ++ [⟨et, em⟩], a5, c5, rfl, hrg5, by omega, by rw [hcells_append]; exact own5, HC2.out, Nat.lt_of_lt_of_le hsz3 gr5.size, hnx3.grown gr5 hnx3.size (fun g hg => by have := (owns_lt own3 g hg).1; omega)⟩
      case measure => rw [hrg5.left_eq, hrg.left_eq]; exact hlt
end Go.Proofs.Ytjagobcogkdfhaa

