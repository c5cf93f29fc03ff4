
/- takenBack and UndoAll of the program. -/
import Derived.Test.YtjagobcogkdfhaaBckD
namespace Go.Proofs.Ytjagobcogkdfhaa
open Go.RowKit

theorem OwnU.low {w : World} {B m p : Nat} {lv rv : Value} {ls : List (List Ch.Row)} {rs : List Ch.Rec} (h : OwnU w B lv m ls rv p rs) {q o : Nat} (hq : q < B) (u : Value) : OwnU (w.setCell ⟨q, o, Option.none⟩ u) B lv m ls rv p rs := by
  obtain ⟨vs, lo, hi, h1, h2, h3, h4, h5⟩ := h
  exact ⟨vs, lo, hi, h1.store3 hq u, ownsRow_setCell_below h2 (a := ⟨q, o, Option.none⟩) hq u, h3, by simpa using h4, h5⟩
theorem Ch.setF_leaves {ls : List (List Ch.Row)} {tx : Int} {bs : List Ch.Bf} (h : Ch.setF ls tx bs = 0) : Ch.leavesFault ls = 0 := by
  unfold Ch.setF at h
  by_cases h1 : (Ch.leavesFault ls != 0) = true
  · rw [if_pos h1] at h; rw [h] at h1; cases h1
  · simpa using h1
theorem Ch.setF_rest {ls : List (List Ch.Row)} {tx : Int} {bs : List Ch.Bf} (h : Ch.setF ls tx bs = 0) : Ch.inB tx 1 999 = true ∧ Ch.befFault bs = 0 := by
  have hg := Ch.setF_leaves h
  unfold Ch.setF at h
  rw [hg, if_neg (by decide)] at h
  by_cases h2 : Ch.inB tx 1 999 = true
  · rw [if_pos h2] at h; exact ⟨h2, h⟩
  · rw [if_neg h2] at h; cases h
theorem Ch.setF_few {ls : List (List Ch.Row)} {tx : Int} {bs : List Ch.Bf} (h : Ch.setF ls tx bs = 0) : bs.length ≤ 40 := by
  have := (Ch.setF_rest h).2
  unfold Ch.befFault at this
  by_cases hb : 40 < bs.length
  · rw [if_pos hb] at this; cases this
  · omega
theorem heap_mid {w : World} {R : Nat} {t : TypeId} {u0 u1 u2 : Value} (h : w.heap[R]? = some (.cells #[u0, u1, u2] t (0, 0))) (v1 : Value) : (w.setCell ⟨R, 1, none⟩ v1).heap[R]? = some (.cells #[u0, v1, u2] t (0, 0)) := by
  have h1 := Joins.block_setCell (i := 1) h v1
  simpa using h1

set_option linter.unusedSimpArgs false in
set_option maxRecDepth 20000 in
set_option maxHeartbeats 4000000 in
theorem takenBack_any (a : Option Addr) (n cap : Nat) (tx : Int) (ab : Option Addr) (nb cb : Nat) (ls : List (List Ch.Row)) (bs : List Ch.Bf) (w : World) (h : LvAt w a n ls) (hg : Ch.leavesFault ls = 0) (hb : CellsAt w ab (nb * 3) (bfcells bs)) (hnb : nb ≤ 40) :
    Calls Try.prog 112 #[.slice a n cap, .int .i64 tx, .slice ab nb cb] w fun e w' => ∃ a' m c' r p q, e = .returned (.agg #[.int .i64 (Ch.backAll tx ls bs).1, .slice a' m c', .slice r p q]) ∧ OwnU w' w.heap.size (.slice a' m c') m (Ch.backAll tx ls bs).2.1 (.slice r p q) p (Ch.backAll tx ls bs).2.2 ∧ Below w.heap.size w w' := by
  have hs := Ch.good_size hg
  have HL := hb.bflen
  have hgl : ∀ k, k < n → (ls.getD k []).length ≠ 0 := fun k hk => (Ch.good_leaf hg k (by have := h.len.out; omega)).1
  have hmf : ∀ (fn : Fn) (first cap : Array Value) (w : World), (Instr.makeFunc fn first cap).run Try.prog w = .ok (.func fn first cap) w := fun _ _ _ _ => rfl
  have b0 : Below w.heap.size w ((w.alloc (.cells #[.int .i64 tx] 2)).alloc (.cells #[.int .i64 0, .slice none 0 0, .slice none 0 0] 61)) := ((Below.refl _ _).alloc (Nat.le_refl _) _).alloc (by simp) _
  have hT0 := block_below ((Below.refl _ _).alloc (Nat.le_refl _) (.cells #[.int .i64 0, .slice none 0 0, .slice none 0 0] 61)) (heap_alloc_new w (.cells #[.int .i64 tx] 2))
  have hR0 := heap_alloc_new (w.alloc (.cells #[.int .i64 tx] 2)) (.cells #[.int .i64 0, .slice none 0 0, .slice none 0 0] 61)
  rw [show (w.alloc (.cells #[.int .i64 tx] 2)).heap.size = w.heap.size + 1 by simp] at hR0
  go_enter_defers Try.func112, Try.ntmps112
  go_wp2_with fail
  refine (cloneLeavesAll_any a n cap ls _ (h.below b0) hs hgl).mono ?_
  rintro e w1 ⟨a1, c1, rfl, o1, b1⟩
  have hR1 := block_below b1 hR0
  have hT1 := block_below b1 hT0
  have bE := b0.trans (b1.mono b0.size)
  have z1 := b1.size
  simp at z1
  obtain ⟨x0, x1, x2, f0, f1, f2⟩ := rowThree hR1
  clear hR0 hT0 b0
  go_wp2
  have hRV := heap_mid hR1 (.slice a1 n c1)
  have hTV : (w1.setCell ⟨w.heap.size + 1, 1, none⟩ (.slice a1 n c1)).heap[w.heap.size]? = some (.cells #[.int .i64 tx] 2 (0, 0)) := (Below.heap_setCell _ _ _ _ (by show w.heap.size ≠ w.heap.size + 1; omega)).trans hT1
  obtain ⟨vs, o1⟩ := o1.told
  have o1V := o1.store3 (q := w.heap.size + 1) (o := 1) (by simp) (.slice a1 n c1)
  have hBV := bE.setCell (p := ⟨w.heap.size + 1, 1, none⟩) (Nat.le_succ _) (.slice a1 n c1)
  have hVs : (w1.setCell ⟨w.heap.size + 1, 1, none⟩ (.slice a1 n c1)).heap.size = w1.heap.size := by simp
  generalize w1.setCell ⟨w.heap.size + 1, 1, none⟩ (.slice a1 n c1) = V at *
  clear x0 x1 x2 f0 f1 f2 hR1 hT1 b1 o1 bE
  refine wp_loop (fun act wr => ∃ (k : Nat) (u8 u15 u16 u17 u18 u19 : Value), k ≤ nb ∧ act = { tmps := #[.slice a n cap, .int .i64 tx, .slice ab nb cb, undef, .pointer (some ⟨w.heap.size, 0, none⟩), undef, .pointer (some ⟨w.heap.size + 1, 0, none⟩), undef, u8, .slice a n cap, .slice a1 n c1, .pointer (some ⟨w.heap.size + 1, 1, none⟩), .slice ab nb cb, .int .i64 nb, .int .i64 k, u15, u16, u17, u18, u19, undef], defers := putOff (w.heap.size + 1) w.heap.size w1.heap.size k } ∧ wr.heap.size = w1.heap.size + k ∧ (∀ i, i < k → wr.heap[w1.heap.size + i]? = some (.cells #[.int .i64 (bs.getD i Ch.Bf.zero).k, .bool (bs.getD i Ch.Bf.zero).h, .int .i64 (bs.getD i Ch.Bf.zero).v] 64 (0, 0))) ∧ Below V.heap.size V wr) (fun act _ => nb - (intOf (act.tmps.getD 14 undef)).toNat) ⟨0, undef, undef, undef, undef, undef, undef, Nat.zero_le _, rfl, by simpa using hVs, fun i hi => absurd hi (by omega), Below.refl _ _⟩ ?_
  rintro act wr ⟨k, u8, u15, u16, u17, u18, u19, hk, rfl, hsz, hX, hB⟩
  have hbW := hBV.trans (hB.mono hBV.size)
  by_cases hlt : k < nb
  · obtain ⟨b, off, rfl, q0, q1, q2⟩ := (hb.below hbW).bef hlt
    have hbl := lt_of_cell q0
    have Hr := hid (rfl : bs.getD k Ch.Bf.zero = bs.getD k Ch.Bf.zero)
    generalize hr : bs.getD k Ch.Bf.zero = r at q0 q1 q2
    replace Hr := hid hr
    clear hr
    obtain ⟨rk, rh, rv⟩ := r
    simp only at q0 q1 q2
    have HXk : Hid (wr.heap.size = w1.heap.size + k) := hsz
    have HX := hid hX
    have hoff : putOff (w.heap.size + 1) w.heap.size w1.heap.size (k + 1) = { target := .fn (.func 173) #[.pointer (some ⟨w.heap.size + 1, 0, none⟩), .pointer (some ⟨w.heap.size, 0, none⟩), .pointer (some ⟨w1.heap.size + k, 0, none⟩)], args := #[] } :: putOff (w.heap.size + 1) w.heap.size w1.heap.size k := rfl
    have HO := hid hoff
    generalize putOff (w.heap.size + 1) w.heap.size w1.heap.size k = D at *
    clear hX hsz hoff
    go_wp2
    refine ⟨⟨k + 1, .pointer (some ⟨wr.heap.size, 0, none⟩), .bool true, .pointer (some ⟨b, off + k * 3, none⟩), .agg #[.int .i64 rk, .bool rh, .int .i64 rv], .func (.func 173) #[] #[.pointer (some ⟨w.heap.size + 1, 0, none⟩), .pointer (some ⟨w.heap.size, 0, none⟩), .pointer (some ⟨wr.heap.size, 0, none⟩)], .int .i64 ((k : Int) + 1), by omega, by rw [HO.out, ← HXk.out]; simp, by have := HXk.out; simp; omega, fun i hi => ?_, hB.alloc hB.size _⟩, by simp [intOf]; omega⟩
    by_cases hik : i = k
    · subst hik
      rw [Hr.out, ← HXk.out]
      exact heap_alloc_new wr _
    · exact (Below.heap_alloc wr _ _ (by have := HXk.out; omega)).trans (HX.out i (by omega))
  · obtain rfl : k = nb := by omega
    have hRW := block_below hB hRV
    have hTW := block_below hB hTV
    obtain ⟨x0, x1, x2, f0, f1, f2⟩ := rowThree hRW
    have hbl : bs.length = k := by have := HL.out; omega
    have hW6 := ((hbW.setCell (p := ⟨w.heap.size + 1, 0, none⟩) (Nat.le_succ _) (.int .i64 0)).setCell (p := ⟨w.heap.size + 1, 1, none⟩) (Nat.le_succ _) (.slice a1 n c1)).setCell (p := ⟨w.heap.size + 1, 2, none⟩) (Nat.le_succ _) (.slice none 0 0)
    have hV6 := fun j (hj : j ≠ w.heap.size + 1) => show ((((wr.setCell ⟨w.heap.size + 1, 0, none⟩ (.int .i64 0)).setCell ⟨w.heap.size + 1, 1, none⟩ (.slice a1 n c1)).setCell ⟨w.heap.size + 1, 2, none⟩ (.slice none 0 0)).heap[j]? = wr.heap[j]?) from by
      rw [Below.heap_setCell _ _ _ _ (by exact hj), Below.heap_setCell _ _ _ _ (by exact hj), Below.heap_setCell _ _ _ _ (by exact hj)]
    have o1W := (o1V.below hB)
    have o6 := ((o1W.store3 (q := w.heap.size + 1) (o := 0) (by simp) (.int .i64 0)).store3 (q := w.heap.size + 1) (o := 1) (by simp) (.slice a1 n c1)).store3 (q := w.heap.size + 1) (o := 2) (by simp) (.slice none 0 0)
    have hsW := hsz
    have hBs := hB.size
    go_wp2
    have hend := Ch.back_end (tx := tx) (ls := ls) (bs := bs) (k := bs.length) (Nat.le_refl _)
    rw [← hbl]
    refine leaves_back w.heap.size (w.heap.size + 1) w.heap.size w1.heap.size (w.heap.size + 2) k (Nat.le_succ _) tx ls bs hg (by omega) (by omega) (by omega) (by omega) (by omega) (by omega) _ _ w ?_ ?_ bs.length (Nat.le_refl _) _ a1 n c1 none 0 0 ?_ ((hV6 _ (by omega)).trans hTW) (fun i hi => (hV6 _ (by omega)).trans (hX i (by omega))) ?_ (fun g hg => by simp [Value.ownBlock] at hg) (by simp; omega) hW6 (by simp; omega) (Nat.le_refl _)
    · intro w' z0 z1' z2 hz
      obtain ⟨y0, y1, y2, _, _, _⟩ := rowThree hz
      simp [results, Try.results112, go_sem, y0, y1, y2]
    · intro w' a' m' cap' r' p' q' U' bel'
      exact ⟨a', m', cap', r', p', q', rfl, U'.base (by omega), bel'⟩
    · rw [hend]
      exact heap_three hRW _ _ _
    · rw [hend]
      have hl0 := owns_lt o6.2.1
      have hl1 := o6.lt
      refine ⟨vs, w.heap.size + 2, w1.heap.size + k, by simpa using o6, World.ownsRow_nil _ _ _ _, Nat.le_refl _, by simp; omega, fun g hg => ?_, fun i x g hx hg => ?_, fun g hg => by simp [Value.ownBlock] at hg⟩
      · have := hl0 g hg; simp at this; omega
      · have := hl1 i x g hx hg; simp at this; omega

set_option linter.unusedSimpArgs false in
set_option maxHeartbeats 4000000 in
theorem implUndoAll_any (a : Option Addr) (n cap : Nat) (tx : Int) (ab : Option Addr) (nb cb : Nat) (ls : List (List Ch.Row)) (bs : List Ch.Bf) (w : World) (h : LvAt w a n ls) (hs : Ch.lvSize ls ≤ 1048576) (hb : CellsAt w ab (nb * 3) (bfcells bs)) (hnb : nb ≤ 1048576) :
    Calls Try.prog 41 #[.slice a n cap, .int .i64 tx, .slice ab nb cb] w fun e w' => ∃ a' m c' r p q, e = .returned (.agg #[.int .i64 (Ch.undoR ls tx bs).1, .slice a' m c', .slice r p q]) ∧ OwnU w' w.heap.size (.slice a' m c') m (Ch.undoR ls tx bs).2.1 (.slice r p q) p (Ch.undoR ls tx bs).2.2 ∧ Below w.heap.size w w' := by
  have b0 : Below w.heap.size w (w.alloc (.cells #[.int .i64 0, .slice none 0 0, .slice none 0 0] 61)) := (Below.refl _ _).alloc (Nat.le_refl _) _
  have FI := fun W hW hb' => setFault_any a n cap tx ab nb cb ls bs W hW hs hb' hnb
  obtain ⟨c, HC⟩ : ∃ c, Hid (Ch.setF ls tx bs = c) := ⟨_, rfl⟩
  rw [HC.out] at FI
  by_cases h0 : c = 0
  · subst h0
    rw [Ch.undoR_ok HC.out]
    have hg := Ch.setF_leaves HC.out
    have hn40 : nb ≤ 40 := by have := Ch.setF_few HC.out; have := hb.bflen.out; omega
    have TI := fun W hW hb' => takenBack_any a n cap tx ab nb cb ls bs W hW hg hb' hn40
    generalize Ch.backAll tx ls bs = st at *
    clear HC hg
    go_enter Try.func41, Try.ntmps41
    go_wp2_with fail
    refine (FI _ (h.below b0) (hb.below b0)).mono ?_
    rintro e w1 ⟨rfl, b1⟩
    obtain ⟨x0, x1, x2, f0, f1, f2⟩ := three_box b1
    have hz := lt_of_cell x0
    have bE := b0.trans (b1.mono b0.size)
    clear b1 FI
    go_wp2_with fail
    refine (TI _ (h.below bE) (hb.below bE)).mono ?_
    rintro e w2 ⟨a2, m2, c2, r2, p2, q2, rfl, U2, b2⟩
    replace x0 := keep_cell b2 x0
    replace x1 := keep_cell b2 x1
    replace x2 := keep_cell b2 x2
    replace f0 := ((bcell b2).2 w.heap.size 0 hz).trans f0
    replace f1 := ((bcell b2).2 w.heap.size 1 hz).trans f1
    replace f2 := ((bcell b2).2 w.heap.size 2 hz).trans f2
    have bF := bE.trans (b2.mono bE.size)
    go_wp2
    refine bodyPost_ret (v := .agg #[.int .i64 st.1, .slice a2 m2 c2, .slice r2 p2 q2]) (by simp [results, Try.results41, go_sem, x0, x1, x2]) rfl ⟨a2, m2, c2, r2, p2, q2, rfl, ?_, ((bF.setCell (p := ⟨w.heap.size, 0, none⟩) (Nat.le_refl _) _).setCell (p := ⟨w.heap.size, 1, none⟩) (Nat.le_refl _) _).setCell (p := ⟨w.heap.size, 2, none⟩) (Nat.le_refl _) _⟩
    exact (((U2.low hz _).low hz _).low hz _).base (Nat.le_of_lt hz)
  · have hc : (c != 0) = true := by simpa using h0
    rw [Ch.undoR_code HC.out hc]
    clear HC
    go_enter Try.func41, Try.ntmps41
    go_wp2_with fail
    refine (FI _ (h.below b0) (hb.below b0)).mono ?_
    rintro e w1 ⟨rfl, b1⟩
    obtain ⟨x0, x1, x2, f0, f1, f2⟩ := three_box b1
    have hz := lt_of_cell x0
    have bE := b0.trans (b1.mono b0.size)
    clear b1 FI
    go_wp2
    exact bodyPost_ret (v := .agg #[.int .i64 c, .slice none 0 0, .slice none 0 0]) (by simp [results, Try.results41, go_sem, x0, x1, x2]) rfl ⟨none, 0, 0, none, 0, 0, rfl, OwnU.none _ _, ((bE.setCell (p := ⟨w.heap.size, 0, none⟩) (Nat.le_refl _) _).setCell (p := ⟨w.heap.size, 1, none⟩) (Nat.le_refl _) _).setCell (p := ⟨w.heap.size, 2, none⟩) (Nat.le_refl _) _⟩
end Go.Proofs.Ytjagobcogkdfhaa
