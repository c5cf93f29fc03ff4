
/- MergeLeaves and EvenLeaves of the program. -/
import Derived.Test.YtofhkncdjjlllaaMrgE
import Derived.Test.YtofhkncdjjlllaaPakA
namespace Go.Proofs.Ytofhkncdjjlllaa
open Go.RowKit

theorem Ch.two_small {ls : List (List Ch.Row)} (hs : Ch.lvSize ls ≤ 1048576) {k : Nat} (hk : k + 1 < ls.length) {mid : List (List Ch.Row)} (hm : mid.flatten = Ch.pairAt ls k) (hl : mid.length ≤ 2) : Ch.lvSize (Ch.twoIn ls k mid) ≤ 1048576 := by
  have h1 := Ch.flat_len (Ch.twoIn ls k mid)
  rw [Ch.two_flat ls k mid hk hm, Ch.flat_len] at h1
  have h2 := Ch.two_len ls k mid hk
  unfold Ch.lvSize at hs ⊢
  omega
theorem Ch.nil_small : Ch.lvSize [] ≤ 1048576 := by simp [Ch.lvSize]
theorem Ch.mergeR_small {ls : List (List Ch.Row)} (hs : Ch.lvSize ls ≤ 1048576) (key : Int) : Ch.lvSize (Ch.mergeR ls key).2 ≤ 1048576 := by
  cases hc : (Ch.pairAsked ls key != 0)
  · have h0 : Ch.pairAsked ls key = 0 := by simpa using hc
    obtain ⟨_, k, rfl, hk⟩ := Ch.asked_ok h0
    rw [Ch.mergeR_ok h0]
    split
    · exact Ch.nil_small
    · exact Ch.two_small hs hk (by simp) (by simp)
  · rw [Ch.mergeR_no hc]; exact Ch.nil_small
theorem Ch.evenR_small {ls : List (List Ch.Row)} (hs : Ch.lvSize ls ≤ 1048576) (key : Int) : Ch.lvSize (Ch.evenR ls key).2 ≤ 1048576 := by
  cases hc : (Ch.pairAsked ls key != 0)
  · have h0 : Ch.pairAsked ls key = 0 := by simpa using hc
    obtain ⟨_, k, rfl, hk⟩ := Ch.asked_ok h0
    rw [Ch.evenR_ok h0]
    exact Ch.two_small hs hk (Ch.evens_flat _) (by simp [Ch.evens])
  · rw [Ch.evenR_no hc]; exact Ch.nil_small

set_option linter.unusedSimpArgs false in
set_option maxHeartbeats 2000000 in
theorem implMerge_any (a : Option Addr) (n cap : Nat) (key : Int) (ls : List (List Ch.Row)) (w : World) (h : LvAt w a n ls) (hs : Ch.lvSize ls ≤ 1048576) :
    Calls Try.prog 30 #[.slice a n cap, .int .i64 key] w fun e w' => ∃ a' m c', e = .returned (.agg #[.int .i64 (Ch.mergeR ls key).1, .slice a' m c']) ∧ OwnLv w' w.heap.size (.slice a' m c') m (Ch.mergeR ls key).2 ∧ Below w.heap.size w w' := by
  have HL := h.len
  have b0 : Below w.heap.size w (w.alloc (.cells #[.int .i64 0, .slice none 0 0] 46)) := (Below.refl _ _).alloc (Nat.le_refl _) _
  have FI := fun W hW => pairFault_any a n cap key ls W hW hs
  cases hc : (Ch.pairAsked ls key != 0)
  · have h0 : Ch.pairAsked ls key = 0 := by simpa using hc
    rw [h0] at FI
    obtain ⟨hg0, k, rfl, hk⟩ := Ch.asked_ok h0
    rw [Ch.mergeR_ok h0]
    have hg := Ch.good_at HL hg0
    rw [← HL.out] at hk
    clear h0 hc hg0
    by_cases h4 : 4 < (Ch.pairAt ls k).length
    all_goals
      first | rw [if_pos h4] | rw [if_neg h4]
      go_enter Try.func30, Try.ntmps30
      go_wp2_with fail
      refine (FI _ (h.below b0)).mono ?_
      rintro e w1 ⟨rfl, b1⟩
      obtain ⟨x0, x1⟩ := box2 b1
      have f0 := box_froz b1 0
      have f1 := box_froz b1 1
      have hz := lt_of_cell x0
      have bE := b0.trans (b1.mono b0.size)
      go_wp2_with fail
      refine (pairRows_any a n cap k ls _ (h.below bE) hs hg hk).mono ?_
      rintro e w2 ⟨a2, m, c2, rfl, hm, own, b2⟩
      have HM := own_rows_len own
      replace x0 := keep_cell b2 x0
      replace x1 := keep_cell b2 x1
      replace f0 := ((bcell b2).2 w.heap.size 0 hz).trans f0
      replace f1 := ((bcell b2).2 w.heap.size 1 hz).trans f1
      have bE2 := bE.trans (b2.mono bE.size)
      have hz2 := lt_of_cell x0
      have hm4 := h4
      rw [← HM.out] at hm4
    · go_wp2
      refine bodyPost_ret (v := .agg #[.int .i64 2, .slice none 0 0]) (by simp [results, Try.results30, go_sem, x0, x1]) rfl ⟨none, 0, 0, rfl, OwnLv.nil _ _, ?_⟩
      exact (bE2.setCell (p := ⟨w.heap.size, 0, none⟩) (Nat.le_refl _) _).setCell (p := ⟨w.heap.size, 1, none⟩) (Nat.le_refl _) _
    · have own' : w2.ownsRow w1.heap.size 42 3 (.slice a2 m c2) (Ch.pairAt ls k).length (rcells (Ch.pairAt ls k)) := by rw [← HM.out]; exact own
      have bA : ∀ o, Below w2.heap.size w2 (w2.alloc o) := fun o => (Below.refl _ _).alloc (Nat.le_refl _) _
      have hm5 : ¬ (4 : Int) < (m : Int) := by omega
      have hz12 := b2.size
      go_wp2_with fail
      refine (putPair_one a n cap k w2.heap.size w1.heap.size ls (.slice a2 m c2) (Ch.pairAt ls k) _ (h.below (bE2.alloc bE2.size _)) hs hg hk (owns_below own' (bA _)) (one_leaf rfl) (by simp; omega)).mono ?_
      rintro e w3 ⟨g, c3, rfl, oL, b3⟩
      have b3w := below_box b3
      replace x0 := keep_cell b3w x0
      replace x1 := keep_cell b3w x1
      replace f0 := ((bcell b3w).2 w.heap.size 0 hz2).trans f0
      replace f1 := ((bcell b3w).2 w.heap.size 1 hz2).trans f1
      have bE3 := bE2.trans (b3w.mono bE2.size)
      go_wp2
      refine bodyPost_ret (v := .agg #[.int .i64 0, .slice (some ⟨g, 0, none⟩) (n - 1) c3]) (by simp [results, Try.results30, go_sem, x0, x1]) rfl ⟨_, n - 1, c3, rfl, ?_, ?_⟩
      · exact ((oL.box hz _).box hz _).base (by omega)
      · exact (bE3.setCell (p := ⟨w.heap.size, 0, none⟩) (Nat.le_refl _) _).setCell (p := ⟨w.heap.size, 1, none⟩) (Nat.le_refl _) _
  · rw [Ch.mergeR_no hc]
    go_enter Try.func30, Try.ntmps30
    go_wp2_with fail
    refine (FI _ (h.below b0)).mono ?_
    rintro e w1 ⟨rfl, b1⟩
    obtain ⟨x0, x1⟩ := box2 b1
    have f0 := box_froz b1 0
    have f1 := box_froz b1 1
    have hz := lt_of_cell x0
    have bE := b0.trans (b1.mono b0.size)
    clear FI
    generalize hq : Ch.pairAsked ls key = c at *
    go_wp2
    exact bodyPost_ret (v := .agg #[.int .i64 c, .slice none 0 0]) (by simp [results, Try.results30, go_sem, x0, x1]) rfl ⟨none, 0, 0, by rw [hq], OwnLv.nil _ _, (bE.setCell (p := ⟨w.heap.size, 0, none⟩) (Nat.le_refl _) _).setCell (p := ⟨w.heap.size, 1, none⟩) (Nat.le_refl _) _⟩

theorem Ch.half_take (l : List Ch.Row) (h : Nat) : (l.drop 0).take (h - 0) = l.take h := by simp
theorem Ch.half_drop (l : List Ch.Row) (h : Nat) : (l.drop h).take (l.length - h) = l.drop h := List.take_of_length_le (by simp)

set_option linter.unusedSimpArgs false in
set_option maxHeartbeats 4000000 in
theorem implEven_any (a : Option Addr) (n cap : Nat) (key : Int) (ls : List (List Ch.Row)) (w : World) (h : LvAt w a n ls) (hs : Ch.lvSize ls ≤ 1048576) :
    Calls Try.prog 31 #[.slice a n cap, .int .i64 key] w fun e w' => ∃ a' m c', e = .returned (.agg #[.int .i64 (Ch.evenR ls key).1, .slice a' m c']) ∧ OwnLv w' w.heap.size (.slice a' m c') m (Ch.evenR ls key).2 ∧ Below w.heap.size w w' := by
  have HL := h.len
  have b0 : Below w.heap.size w (w.alloc (.cells #[.int .i64 0, .slice none 0 0] 46)) := (Below.refl _ _).alloc (Nat.le_refl _) _
  have FI := fun W hW => pairFault_any a n cap key ls W hW hs
  cases hc : (Ch.pairAsked ls key != 0)
  · have h0 : Ch.pairAsked ls key = 0 := by simpa using hc
    rw [h0] at FI
    obtain ⟨hg0, k, rfl, hk⟩ := Ch.asked_ok h0
    rw [Ch.evenR_ok h0]
    have hpp := Ch.pair_pos hg0 hk
    have hg := Ch.good_at HL hg0
    rw [← HL.out] at hk
    clear h0 hc hg0
    have PR := fun W hW => pairRows_any a n cap k ls W hW hs hg hk
    unfold Ch.evens Ch.halfOf
    generalize Ch.pairAt ls k = l at *
    generalize hL : l.length = L at *
    obtain ⟨hf, hhf⟩ : ∃ hf, hf = (L + 1) / 2 := ⟨_, rfl⟩
    rw [← hhf]
    have hq : ((L : Int) + 1).tdiv 2 = (hf : Int) := by rw [Int.tdiv_eq_ediv_of_nonneg (by omega)]; omega
    have hq2 : ((L : Int) + 1) / 2 = (hf : Int) := by omega
    have hh1 : 0 < hf := by omega
    have hh2 : hf < L := by omega
    clear hhf
    go_enter Try.func31, Try.ntmps31
    go_wp2_with fail
    refine (FI _ (h.below b0)).mono ?_
    rintro e w1 ⟨rfl, b1⟩
    obtain ⟨x0, x1⟩ := box2 b1
    have f0 := box_froz b1 0
    have f1 := box_froz b1 1
    have hz := lt_of_cell x0
    have bE := b0.trans (b1.mono b0.size)
    go_wp2_with fail
    refine (PR _ (h.below bE)).mono ?_
    rintro e w2 ⟨a2, m, c2, rfl, hm, own, b2⟩
    obtain rfl : m = L := by have := (own_rows_len own).out; omega
    rcases own.2 with ⟨_, h00⟩ | ⟨gr, cp, cur, hv, _⟩
    · omega
    simp only [Value.slice.injEq, true_and] at hv
    obtain ⟨rfl, rfl⟩ := hv
    have hcap := owns_capN own
    have hcells := owns_cells own
    replace x0 := keep_cell b2 x0
    replace x1 := keep_cell b2 x1
    replace f0 := ((bcell b2).2 w.heap.size 0 hz).trans f0
    replace f1 := ((bcell b2).2 w.heap.size 1 hz).trans f1
    have bE2 := bE.trans (b2.mono bE.size)
    have hz2 := lt_of_cell x0
    have P1 := piece_any gr m c2 0 hf l w2 hcells (by omega) hh1 (by omega) hcap.1 hcap.2
    rw [Ch.half_take, Nat.sub_zero] at P1
    clear b1 b2 FI PR bE b0
    go_wp2_with fail
    refine P1.mono ?_
    rintro e w3 ⟨a3, c3, rfl, o3, b3⟩
    clear P1
    have hcells3 := hcells.below b3
    replace x0 := keep_cell b3 x0
    replace x1 := keep_cell b3 x1
    replace f0 := ((bcell b3).2 w.heap.size 0 hz2).trans f0
    replace f1 := ((bcell b3).2 w.heap.size 1 hz2).trans f1
    have bE3 := bE2.trans (b3.mono bE2.size)
    have hz3 := lt_of_cell x0
    have bB : ∀ o, Below w3.heap.size w3 (w3.alloc o) := fun o => (Below.refl _ _).alloc (Nat.le_refl _) _
    obtain ⟨w3b, hw3b⟩ : ∃ w3b, w3b = w3.alloc (.cells #[.slice a3 hf c3] 59) := ⟨_, rfl⟩
    have b3b : Below w3.heap.size w3 w3b := by rw [hw3b]; exact bB _
    have u0 : w3b.cell? ⟨w3.heap.size, 0, none⟩ = some (.slice a3 hf c3) := by rw [hw3b]; simp [go_sem]
    have uz : w3b.heap.size = w3.heap.size + 1 := by rw [hw3b]; simp
    have P2 := piece_any gr m c2 hf m l w3b (hcells3.below b3b) (by omega) hh2 (by omega) hcap.1 hcap.2
    rw [show m - hf = l.length - hf by omega, Ch.half_drop] at P2
    have o3b := owns_below o3 b3b
    replace x0 := keep_cell b3b x0
    replace x1 := keep_cell b3b x1
    replace f0 := ((bcell b3b).2 w.heap.size 0 hz3).trans f0
    replace f1 := ((bcell b3b).2 w.heap.size 1 hz3).trans f1
    have bE3b := bE3.trans (b3b.mono bE3.size)
    have hz3b := lt_of_cell x0
    have hz23 := b3.size
    clear b3 hcells hcells3 o3 own
    go_wp2_with fail
    rw [← hw3b]
    refine P2.mono ?_
    rintro e w4 ⟨a4, c4, rfl, o4, b4⟩
    clear P2 hw3b
    have o3c := owns_below o3b b4
    have k3 := owns_lt o3b
    have k4 := owns_lt o4
    replace u0 := keep_cell b4 u0
    replace x0 := keep_cell b4 x0
    replace x1 := keep_cell b4 x1
    replace f0 := ((bcell b4).2 w.heap.size 0 hz3b).trans f0
    replace f1 := ((bcell b4).2 w.heap.size 1 hz3b).trans f1
    have bE4 := bE3b.trans (b4.mono bE3b.size)
    have hz4 := lt_of_cell x0
    have hzz4 := b4.size
    have hu4 := lt_of_cell u0
    have bA2 : ∀ o o' : Obj, Below w4.heap.size w4 ((w4.alloc o).alloc o') := fun o o' => ((Below.refl _ w4).alloc (Nat.le_refl _) _).alloc (by simp) _
    have HLa : Hid ((l.take hf).length = hf) := by show _ = _; simp; omega
    have HLb : Hid ((l.drop hf).length = l.length - hf) := by show _ = _; simp
    have o3d : w4.ownsRow w2.heap.size 42 3 (.slice a3 hf c3) (l.take hf).length (rcells (l.take hf)) := by rw [HLa.out]; exact o3c
    have o4d : w4.ownsRow w2.heap.size 42 3 (.slice a4 (l.length - hf) c4) (l.drop hf).length (rcells (l.drop hf)) := by rw [HLb.out]; exact owns_base o4 (by omega)
    have hxy : ∀ q, (Value.slice a3 hf c3).ownBlock = some q → (Value.slice a4 (l.length - hf) c4).ownBlock ≠ some q := by
      intro q hq e
      have := k3 q hq
      have := k4 q e
      omega
    have PP := fun W (hb : Below w4.heap.size w4 W) vb hv => putPair_two a n cap k vb w2.heap.size ls (.slice a3 hf c3) (.slice a4 (l.length - hf) c4) (l.take hf) (l.drop hf) W ((h.below bE4).below hb) hs hg hk (owns_below o3d hb) (owns_below o4d hb) hxy hv (by have := hb.size; omega)
    generalize l.length - hf = d at *
    clear o3b o3c o4 o3d o4d hxy k3 k4
    go_wp2_with fail
    have PQ := PP ((w4.alloc (.cells #[.slice a4 d c4] 59)).alloc (.cells #[.slice a3 hf c3, .slice a4 d c4] 59)) (bA2 _ _) (w4.heap.size + 1) (two_leaves (by simp))
    refine PQ.mono ?_
    rintro e w5 ⟨g, c5, rfl, oL, b5⟩
    have b5w := (bA2 _ _).trans (b5.mono (bA2 _ _).size)
    clear PP PQ
    replace x0 := keep_cell b5w x0
    replace x1 := keep_cell b5w x1
    replace f0 := ((bcell b5w).2 w.heap.size 0 hz4).trans f0
    replace f1 := ((bcell b5w).2 w.heap.size 1 hz4).trans f1
    have bE5 := bE4.trans (b5w.mono bE4.size)
    go_wp2
    refine bodyPost_ret (v := .agg #[.int .i64 0, .slice (some ⟨g, 0, none⟩) n c5]) (by simp [results, Try.results31, go_sem, x0, x1]) rfl ⟨_, n, c5, rfl, ?_, ?_⟩
    · exact ((oL.box hz2 _).box hz2 _).base (by omega)
    · exact (bE5.setCell (p := ⟨w.heap.size, 0, none⟩) (Nat.le_refl _) _).setCell (p := ⟨w.heap.size, 1, none⟩) (Nat.le_refl _) _
  · rw [Ch.evenR_no hc]
    go_enter Try.func31, Try.ntmps31
    go_wp2_with fail
    refine (FI _ (h.below b0)).mono ?_
    rintro e w1 ⟨rfl, b1⟩
    obtain ⟨x0, x1⟩ := box2 b1
    have f0 := box_froz b1 0
    have f1 := box_froz b1 1
    have hz := lt_of_cell x0
    have bE := b0.trans (b1.mono b0.size)
    clear FI
    generalize hq : Ch.pairAsked ls key = c at *
    go_wp2
    exact bodyPost_ret (v := .agg #[.int .i64 c, .slice none 0 0]) (by simp [results, Try.results31, go_sem, x0, x1]) rfl ⟨none, 0, 0, by rw [hq], OwnLv.nil _ _, (bE.setCell (p := ⟨w.heap.size, 0, none⟩) (Nat.le_refl _) _).setCell (p := ⟨w.heap.size, 1, none⟩) (Nat.le_refl _) _⟩
end Go.Proofs.Ytofhkncdjjlllaa
