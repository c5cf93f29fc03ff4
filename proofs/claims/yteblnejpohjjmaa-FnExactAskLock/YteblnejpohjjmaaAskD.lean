/- AskLock of the program. -/
import Derived.Test.YteblnejpohjjmaaAskC
namespace Go.Proofs.Yteblnejpohjjmaa
open Go.RowKit

theorem Ch.with_mem {r : Int} {ls : List Ch.Lock} {x : Ch.Lock} (h : x ∈ Ch.withL r ls) : x ∈ ls ∨ x = ⟨r, [], []⟩ := by
  unfold Ch.withL at h
  split at h
  · exact .inl h
  · simp only [List.mem_append, List.mem_singleton] at h
    rcases h with (h | h) | h
    · exact .inl (List.mem_of_mem_take h)
    · exact .inr h
    · exact .inl (List.mem_of_mem_drop h)
theorem Ch.lk_mem {ls : List Ch.Lock} {i : Nat} (h : i < ls.length) : Ch.lkAt ls i ∈ ls := by
  unfold Ch.lkAt
  rw [List.getD_eq_getElem?_getD, List.getElem?_eq_getElem h]
  exact List.getElem_mem h
theorem Ch.mem_lk {ls : List Ch.Lock} {x : Ch.Lock} (h : x ∈ ls) : ∃ i, i < ls.length ∧ Ch.lkAt ls i = x := by
  obtain ⟨i, hi, rfl⟩ := List.mem_iff_getElem.1 h
  refine ⟨i, hi, ?_⟩
  unfold Ch.lkAt
  rw [List.getD_eq_getElem?_getD, List.getElem?_eq_getElem hi]
  rfl
theorem Ch.good_mem {ls : List Ch.Lock} (h : Ch.locksFault ls = 0) {x : Ch.Lock} (hx : x ∈ ls) : Ch.lockFault x = 0 := by
  obtain ⟨i, hi, rfl⟩ := Ch.mem_lk hx
  exact (Ch.one_good ((Ch.locks_good h).1 i hi)).2.2.2
theorem Ch.with_at {ls : List Ch.Lock} (h : Ch.locksFault ls = 0) (r : Int) : (Ch.lkAt (Ch.withL r ls) (Ch.placeR r ls)).hs.length ≤ 20 ∧ (Ch.lkAt (Ch.withL r ls) (Ch.placeR r ls)).qs.length ≤ 20 ∧ Ch.namesH (Ch.lkAt (Ch.withL r ls) (Ch.placeR r ls)).hs = true ∧ Ch.namesH (Ch.lkAt (Ch.withL r ls) (Ch.placeR r ls)).qs = true := by
  rcases Ch.with_mem (Ch.lk_mem (Ch.with_len r ls).1) with hx | hx
  · have := Ch.lock_good (Ch.good_mem h hx)
    exact ⟨this.1, this.2.1, this.2.2.1, this.2.2.2.1⟩
  · rw [hx]; exact ⟨by simp, by simp, rfl, rfl⟩
theorem Ch.cov_none {m : Int} (h : Ch.inB m 1 5 = true) : Ch.covers 0 m = false := by
  simp only [Ch.inB, Bool.and_eq_true, decide_eq_true_eq] at h
  obtain rfl | rfl | rfl | rfl | rfl : m = 1 ∨ m = 2 ∨ m = 3 ∨ m = 4 ∨ m = 5 := by omega
  all_goals rfl
theorem Ch.join_none {m : Int} (h : Ch.inB m 1 5 = true) : Ch.join 0 m = m := by
  simp only [Ch.inB, Bool.and_eq_true, decide_eq_true_eq] at h
  obtain rfl | rfl | rfl | rfl | rfl : m = 1 ∨ m = 2 ∨ m = 3 ∨ m = 4 ∨ m = 5 := by omega
  all_goals rfl
theorem Ch.held_isM {m : Int} (h : Ch.inB m 1 5 = true) : Ch.isM m = true := by
  simp only [Ch.isM, Ch.inB, Bool.and_eq_true, decide_eq_true_eq] at h ⊢; omega
theorem Ch.putH_pos (hs : List Ch.Hold) (h : Ch.Hold) : 0 < (Ch.putH hs h).length := by
  unfold Ch.putH
  split
  · next hh =>
    rw [List.length_set]
    cases hs with
    | nil => simp [Ch.hasH] at hh
    | cons => simp
  · simp
theorem Ch.enter_used {l : Ch.Lock} {k : Nat} {h : Ch.Hold} (h0 : (Ch.enterL l k h).2.1 = 0) : 0 < (Ch.enterL l k h).2.2.hs.length + (Ch.enterL l k h).2.2.qs.length := by
  unfold Ch.enterL at h0 ⊢
  split
  · next hh => rw [if_pos hh] at h0; simp at h0
  · simp; omega
theorem Ch.enter_size (l : Ch.Lock) (k : Nat) (h : Ch.Hold) (hk : k ≤ l.qs.length) : (Ch.enterL l k h).2.2.hs.length + (Ch.enterL l k h).2.2.qs.length ≤ l.hs.length + l.qs.length + 1 := by
  unfold Ch.enterL
  split
  · simp only; omega
  · simp; omega
theorem Ch.ask_used1 {l : Ch.Lock} {t m : Int} (hm : Ch.inB m 1 5 = true) (h0 : (Ch.askOne l t m).2.1 = 0) : 0 < (Ch.askOne l t m).2.2.hs.length + (Ch.askOne l t m).2.2.qs.length := by
  unfold Ch.askOne at h0 ⊢
  split
  · next hc =>
    simp only
    rcases Nat.eq_zero_or_pos l.hs.length with h | h
    · have : l.hs = [] := List.length_eq_zero_iff.1 h
      rw [this, show Ch.modeH [] t = 0 from rfl, Ch.cov_none hm] at hc
      cases hc
    · omega
  · next hc =>
    rw [if_neg hc] at h0
    split
    · next h1 => rw [if_pos h1] at h0; exact Ch.enter_used h0
    · next h1 =>
      rw [if_neg h1] at h0
      split
      · next h2 => rw [if_pos h2] at h0; exact Ch.enter_used h0
      · next h2 =>
        rw [if_neg h2] at h0
        split
        · next h3 => rw [if_pos h3] at h0; simp at h0
        · simp only
          have := Ch.putH_pos l.hs ⟨t, Ch.join (Ch.modeH l.hs t) m⟩
          omega
theorem Ch.ask_size1 (l : Ch.Lock) (t m : Int) : (Ch.askOne l t m).2.2.hs.length + (Ch.askOne l t m).2.2.qs.length ≤ l.hs.length + l.qs.length + 1 := by
  unfold Ch.askOne
  split
  · simp only; omega
  · split
    · exact Ch.enter_size _ _ _ (Nat.le_refl _)
    · split
      · exact Ch.enter_size _ _ _ (Ch.conv_le _ _)
      · split
        · simp only; omega
        · simp only
          have := Ch.putH_len l.hs ⟨t, Ch.join (Ch.modeH l.hs t) m⟩
          omega
theorem Ch.with_other {r : Int} {ls : List Ch.Lock} {i : Nat} (hi : i < (Ch.withL r ls).length) (hn : i ≠ Ch.placeR r ls) : Ch.lkAt (Ch.withL r ls) i ∈ ls := by
  unfold Ch.withL at hi ⊢
  split
  · next h => rw [if_pos h] at hi; exact Ch.lk_mem hi
  · next h =>
    rw [if_neg h] at hi
    have hp := Ch.place_le r ls
    rw [Ch.lk_ins _ _ _ _ hp]
    have hl : i < ls.length + 1 := by simp at hi; omega
    split
    · next h1 => exact Ch.lk_mem (by omega)
    · next h1 => exact Ch.lk_mem (by omega)
def Ch.askLs (ls : List Ch.Lock) (t r m : Int) : List Ch.Lock := (Ch.withL r ls).set (Ch.placeR r ls) (Ch.askAt ls t r m).2.2
theorem Ch.askLs_mem {ls : List Ch.Lock} {t r m : Int} {x : Ch.Lock} (h : x ∈ Ch.askLs ls t r m) : x ∈ ls ∨ x = (Ch.askAt ls t r m).2.2 := by
  obtain ⟨i, hi, rfl⟩ := Ch.mem_lk h
  unfold Ch.askLs at hi ⊢
  rw [lk_set _ _ _ _ (Ch.with_len r ls).1]
  split
  · exact .inr rfl
  · next hn => exact .inl (Ch.with_other (by simpa using hi) (fun e => hn e.symm))
theorem Ch.ask_filter {ls : List Ch.Lock} {t r m : Int} (hg : Ch.locksFault ls = 0) (hm : Ch.inB m 1 5 = true) (h0 : (Ch.askAt ls t r m).2.1 = 0) : (Ch.askLs ls t r m).filter Ch.usedL = Ch.askLs ls t r m := by
  refine List.filter_eq_self.2 fun x hx => ?_
  have hp : 0 < x.hs.length + x.qs.length := by
    rcases Ch.askLs_mem hx with h | h
    · exact (Ch.lock_good (Ch.good_mem hg h)).2.2.2.2.2.2.1
    · rw [h]; exact Ch.ask_used1 hm h0
  have h1 : (x.hs.length + x.qs.length == 0) = false := by rw [beq_eq_false_iff_ne]; omega
  unfold Ch.usedL
  rw [h1]; rfl
theorem Ch.ask_size {ls : List Ch.Lock} (hg : Ch.locksFault ls = 0) (t r m : Int) : Ch.lkSize (Ch.askLs ls t r m) ≤ 5000 := by
  have h1 : ∀ x ∈ Ch.askLs ls t r m, x.hs.length + x.qs.length ≤ 41 := by
    intro x hx
    rcases Ch.askLs_mem hx with h | h
    · have := Ch.lock_good (Ch.good_mem hg h); omega
    · rw [h]
      have h2 := Ch.ask_size1 (Ch.lkAt (Ch.withL r ls) (Ch.placeR r ls)) t m
      have h3 := Ch.with_at hg r
      unfold Ch.askAt; omega
  have h2 := Ch.size_bound h1
  have h3 := Ch.good_few hg
  have h4 := (Ch.with_len r ls).2
  have h5 : (Ch.askLs ls t r m).length = (Ch.withL r ls).length := by unfold Ch.askLs; simp
  rw [h5] at h2
  have : (41 + 1) * (Ch.withL r ls).length ≤ (41 + 1) * 102 := Nat.mul_le_mul_left _ (by omega)
  omega
theorem Ch.askR_c {ls : List Ch.Lock} {t r m c : Int} (h : Ch.askC ls t r m = c) (h0 : c ≠ 0) : Ch.askR ls t r m = (c, false, []) := by
  subst h; unfold Ch.askR; rw [if_pos (by simpa using h0)]
theorem Ch.askR_no {ls : List Ch.Lock} {t r m c : Int} (h : Ch.askC ls t r m = 0) (h1 : (Ch.askAt ls t r m).2.1 = c) (h0 : c ≠ 0) : Ch.askR ls t r m = (c, false, []) := by
  subst h1; unfold Ch.askR; rw [if_neg (by simp [h]), if_pos (by simpa using h0)]
theorem Ch.askR_ok {ls : List Ch.Lock} {t r m : Int} (h : Ch.askC ls t r m = 0) (h1 : (Ch.askAt ls t r m).2.1 = 0) : Ch.askR ls t r m = (0, (Ch.askAt ls t r m).1, Ch.askLs ls t r m) := by
  unfold Ch.askR; rw [if_neg (by simp [h]), if_neg (by simp [h1])]; rfl
theorem Ch.askC_bad {ls : List Ch.Lock} {t r m c : Int} (h : Ch.askedT ls t = c) (h0 : c ≠ 0) : Ch.askC ls t r m = c := by
  subst h; unfold Ch.askC; rw [if_pos (by simpa using h0)]
theorem Ch.askC_range {ls : List Ch.Lock} {t r m : Int} (h : Ch.askedT ls t = 0) (h1 : (Ch.inB r 0 100 && Ch.inB m 1 5) = false) : Ch.askC ls t r m = 3 := by
  unfold Ch.askC; rw [if_neg (by simp [h]), if_pos (by simp [h1])]
theorem Ch.askC_waits {ls : List Ch.Lock} {t r m : Int} (h : Ch.askedT ls t = 0) (h1 : (Ch.inB r 0 100 && Ch.inB m 1 5) = true) (h2 : Ch.waitsB ls t = true) : Ch.askC ls t r m = 10 := by
  unfold Ch.askC; rw [if_neg (by simp [h]), if_neg (by simp [h1]), if_pos h2]
theorem Ch.askC_ok {ls : List Ch.Lock} {t r m : Int} (h : Ch.askedT ls t = 0) (h1 : (Ch.inB r 0 100 && Ch.inB m 1 5) = true) (h2 : Ch.waitsB ls t = false) : Ch.askC ls t r m = 0 := by
  unfold Ch.askC; rw [if_neg (by simp [h]), if_neg (by simp [h1]), if_neg (by simp [h2])]

theorem isRes_at {v : Int} {b : Bool} (h : Ch.inB v 0 100 = b) (w : World) : Calls Try.prog 44 #[.int .i64 v] w fun e w' => e = .returned (.bool b) ∧ w' = w := h ▸ isRes_any v w
theorem heldMode_at {v : Int} {b : Bool} (h : Ch.inB v 1 5 = b) (w : World) : Calls Try.prog 45 #[.int .i64 v] w fun e w' => e = .returned (.bool b) ∧ w' = w := h ▸ heldMode_any v w

set_option linter.unusedSimpArgs false in
set_option maxRecDepth 20000 in
set_option maxHeartbeats 1000000 in
theorem implAsk_any (a : Option Addr) (n cap : Nat) (t res mode : Int) (ls : List Ch.Lock) (w : World) (h : LkAt w a n ls) (hs : Ch.lkSize ls ≤ 1048576) :
    Calls Try.prog 13 #[.slice a n cap, .int .i64 t, .int .i64 res, .int .i64 mode] w fun e w' => ∃ a2 m2 c2 vs, e = .returned (.agg #[.int .i64 (Ch.askR ls t res mode).1, .bool (Ch.askR ls t res mode).2.1, .slice none 0 0, .slice a2 m2 c2]) ∧ LkRes w' w.heap.size none 0 0 [] a2 m2 c2 (Ch.askR ls t res mode).2.2 vs ∧ Below w.heap.size w w' := by
  have IA := fun W hW => txnLocks_any a n cap t ls W hW hs
  have IW := fun W hW => resWaited_any a n cap t ls W hW hs
  have kA : ∀ o, Below w.heap.size w (w.alloc o) := fun o => (Below.refl _ _).alloc (Nat.le_refl _) o
  have HL := h.len
  have hn : n ≤ 1048576 := by unfold Ch.lkSize at hs; have := HL.out; omega
  obtain ⟨c, HC⟩ : ∃ c, Hid (Ch.askedT ls t = c) := ⟨_, rfl⟩
  rw [HC.out] at IA
  by_cases h0 : c = 0
  · subst h0
    have HG := hid (Ch.askedT_good HC.out).1
    cases hr : Ch.inB res 0 100
    · have IR := fun W => isRes_at hr W
      rw [Ch.askR_c (Ch.askC_range (r := res) (m := mode) HC.out (by simp [hr])) (by omega)]
      clear hr HC
      go_enter Try.func13, Try.ntmps13
      go_wp2_with fail
      refine (IA _ (h.below (kA _))).mono ?_
      rintro e w1 ⟨rfl, b1⟩
      have hR := heap_below b1 (heap_alloc_new w _)
      have BW := below_box b1
      have lz := (Array.getElem?_eq_some_iff.1 hR).1
      go_wp2_with fail
      refine (IR _).mono ?_
      rintro e w2 ⟨rfl, rfl⟩
      obtain ⟨⟨x0, x1, x2, x3⟩, f0, f1, f2, f3⟩ := row4 hR
      go_wp2
      exact bodyPost_ret (v := .agg #[.int .i64 3, .bool false, .slice none 0 0, .slice none 0 0]) (by simp [results, Try.results13, go_sem, x0, x1, x2, x3]) rfl ⟨none, 0, 0, [], rfl, ⟨World.ownsRow_nil _ _ _ _, OwnK.nil _ _ _, fun g hg => by simp [Value.ownBlock] at hg, by omega, by simp [Ch.lkSize, Ch.lkSum]⟩, (BW.setCell (p := ⟨w.heap.size, 0, none⟩) (Nat.le_refl _) _ |>.setCell (p := ⟨w.heap.size, 1, none⟩) (Nat.le_refl _) _ |>.setCell (p := ⟨w.heap.size, 2, none⟩) (Nat.le_refl _) _ |>.setCell (p := ⟨w.heap.size, 3, none⟩) (Nat.le_refl _) _)⟩
    cases hmo : Ch.inB mode 1 5
    · have IR := fun W => isRes_at hr W
      have IM := fun W => heldMode_at hmo W
      rw [Ch.askR_c (Ch.askC_range (r := res) (m := mode) HC.out (by simp [hmo])) (by omega)]
      clear hr HC hmo
      go_enter Try.func13, Try.ntmps13
      go_wp2_with fail
      refine (IA _ (h.below (kA _))).mono ?_
      rintro e w1 ⟨rfl, b1⟩
      have hR := heap_below b1 (heap_alloc_new w _)
      have BW := below_box b1
      have lz := (Array.getElem?_eq_some_iff.1 hR).1
      go_wp2_with fail
      refine (IR _).mono ?_
      rintro e w2 ⟨rfl, rfl⟩
      go_wp2_with fail
      refine (IM _).mono ?_
      rintro e w2 ⟨rfl, rfl⟩
      obtain ⟨⟨x0, x1, x2, x3⟩, f0, f1, f2, f3⟩ := row4 hR
      go_wp2
      exact bodyPost_ret (v := .agg #[.int .i64 3, .bool false, .slice none 0 0, .slice none 0 0]) (by simp [results, Try.results13, go_sem, x0, x1, x2, x3]) rfl ⟨none, 0, 0, [], rfl, ⟨World.ownsRow_nil _ _ _ _, OwnK.nil _ _ _, fun g hg => by simp [Value.ownBlock] at hg, by omega, by simp [Ch.lkSize, Ch.lkSum]⟩, (BW.setCell (p := ⟨w.heap.size, 0, none⟩) (Nat.le_refl _) _ |>.setCell (p := ⟨w.heap.size, 1, none⟩) (Nat.le_refl _) _ |>.setCell (p := ⟨w.heap.size, 2, none⟩) (Nat.le_refl _) _ |>.setCell (p := ⟨w.heap.size, 3, none⟩) (Nat.le_refl _) _)⟩
    have IR := fun W => isRes_at hr W
    have IM := fun W => heldMode_at hmo W
    have HRM : Hid ((Ch.inB res 0 100 && Ch.inB mode 1 5) = true) := by show _ = _; rw [hr, hmo]; rfl
    have HMB := hid hmo
    clear hr hmo
    cases hwt : Ch.waitsB ls t
    · have HWV : Ch.waitsV ls t = 0 := by unfold Ch.waitsV; rw [hwt]; rfl
      rw [hwt, HWV] at IW
      have HAC := hid (Ch.askC_ok HC.out HRM.out hwt)
      have HWA := hid (Ch.with_at HG.out res)
      have HMM := hid (Ch.held_isM HMB.out)
      clear HWV hwt HC HRM
      go_enter Try.func13, Try.ntmps13
      go_wp2_with fail
      refine (IA _ (h.below (kA _))).mono ?_
      rintro e w1 ⟨rfl, b1⟩
      have hR := heap_below b1 (heap_alloc_new w _)
      have BW := below_box b1
      have lz := (Array.getElem?_eq_some_iff.1 hR).1
      go_wp2_with fail
      refine (IR _).mono ?_
      rintro e w2 ⟨rfl, rfl⟩
      go_wp2_with fail
      refine (IM _).mono ?_
      rintro e w2 ⟨rfl, rfl⟩
      go_wp2_with fail
      refine (IW _ (h.below BW)).mono ?_
      rintro e w1' ⟨rfl, b1'⟩
      have hR := heap_below b1' hR
      have BW := BW.trans (b1'.mono BW.size)
      have lz := (Array.getElem?_eq_some_iff.1 hR).1
      clear b1 b1'
      clear IA IW IR IM
      generalize w1' = w1 at *
      go_wp2_with fail
      refine (openLocks_any a n cap ls _ (h.below BW) hs).mono ?_
      rintro e w2 ⟨a2, c2, rfl, ⟨vs2, own2⟩, b2⟩
      have hR2 := heap_below b2 hR
      have BW2 := BW.trans (b2.mono BW.size)
      clear hR BW
      go_wp2_with fail
      refine (withLock_any w1.heap.size a2 n c2 res ls vs2 _ own2 hn b2.size).mono ?_
      rintro e w3 ⟨a3, m3, c3, rfl, ⟨vs3, own3⟩, b3⟩
      have hR3 := heap_lower b3 lz hR2
      have BW3 := BW2.trans (b3.mono (by omega))
      have hs3 : w1.heap.size ≤ w3.heap.size := Nat.le_trans b2.size b3.size
      have HPL := hid (Ch.with_len res ls).1
      have hk3 : Ch.placeR res ls < m3 := by have h1 := own3.len; have := HPL.out; omega
      clear hR2 BW2 own2 b2
      obtain ⟨o, rfl⟩ := own3.rowAt hk3
      have IK := hid (fun hh hq hg => ask_any t mode w1.heap.size o m3 c3 (Ch.placeR res ls) (Ch.withL res ls) vs3 w3 own3 hk3 hs3 hh hq hg HMM.out)
      have IK := hid (IK.out (by have := HWA.out.1; omega) (by have := HWA.out.2.1; omega) HWA.out.2.2.1)
      have HO3 := hid own3
      have hm3 : m3 ≤ 102 := by have h1 := own3.len; have h2 := (Ch.with_len res ls).2; have h3 := Ch.good_few HG.out; omega
      clear own3
      have HLS : Hid (Ch.askLs ls t res mode = (Ch.withL res ls).set (Ch.placeR res ls) (Ch.askOne (Ch.lkAt (Ch.withL res ls) (Ch.placeR res ls)) t mode).2.2) := rfl
      have HAE : Hid (Ch.askAt ls t res mode = Ch.askOne (Ch.lkAt (Ch.withL res ls) (Ch.placeR res ls)) t mode) := rfl
      rw [← HLS.out, ← HAE.out] at IK
      generalize Ch.placeR res ls = pl at *
      obtain ⟨gr, HGR⟩ : ∃ gr, Hid ((Ch.askAt ls t res mode).1 = gr) := ⟨_, rfl⟩
      obtain ⟨c, HCD⟩ : ∃ c, Hid ((Ch.askAt ls t res mode).2.1 = c) := ⟨_, rfl⟩
      rw [HGR.out, HCD.out] at IK
      go_wp2_with fail
      refine IK.out.mono ?_
      rintro e w4 ⟨rfl, vs4, own4, mv4⟩
      have B4 := mv4.below HO3.out hs3
      have hR := heap_lower B4 lz hR3
      have BW := BW3.trans (B4.mono (by omega))
      have hs4 : w1.heap.size ≤ w4.heap.size := Nat.le_trans hs3 mv4.size
      clear hR3 BW3 IK mv4 B4
      by_cases hc0 : c = 0
      · subst hc0
        have HAR := hid (Ch.askR_ok HAC.out HCD.out)
        have HFI := hid (Ch.ask_filter HG.out HMB.out HCD.out)
        have HSI := hid (Ch.ask_size HG.out t res mode)
        rw [HGR.out] at HAR
        go_wp2_with fail
        refine (closeLocks_any w1.heap.size (some ⟨o, 0, none⟩) m3 c3 (Ch.askLs ls t res mode) vs4 _ own4 (by have := HSI.out; omega) hs4).mono ?_
        rintro e w5 ⟨a5, m5, c5, vs5, rfl, own5, hsub, hrow, b5⟩
        rw [HFI.out] at own5
        have hR5 := heap_below b5 hR
        obtain ⟨⟨x0, x1, x2, x3⟩, f0, f1, f2, f3⟩ := row4 hR5
        have lr3 := lt_of_cell x0
        have BW := BW.trans (b5.mono BW.size)
        have hwl : w.heap.size < w1.heap.size := lz
        have O5 := hid own5
        clear own5
        go_wp2
        refine bodyPost_ret (v := .agg #[.int .i64 0, .bool gr, .slice none 0 0, .slice a5 m5 c5]) (by simp [results, Try.results13, go_sem, x0, x1, x2, x3]) rfl ⟨a5, m5, c5, vs5, by rw [HAR.out], ⟨World.ownsRow_nil _ _ _ _, ?_, fun g hg => by simp [Value.ownBlock] at hg, by omega, by rw [HAR.out]; have := HSI.out; simp only; omega⟩, (BW.setCell (p := ⟨w.heap.size, 0, none⟩) (Nat.le_refl _) _ |>.setCell (p := ⟨w.heap.size, 1, none⟩) (Nat.le_refl _) _ |>.setCell (p := ⟨w.heap.size, 2, none⟩) (Nat.le_refl _) _ |>.setCell (p := ⟨w.heap.size, 3, none⟩) (Nat.le_refl _) _)⟩
        rw [HAR.out]
        simp only
        have hset : ∀ (W : World) (i : Nat) (u : Value), OwnK 83 W w1.heap.size (.slice a5 m5 c5) m5 (Ch.askLs ls t res mode) vs5 → OwnK 83 (W.setCell ⟨w.heap.size, i, none⟩ u) w1.heap.size (.slice a5 m5 c5) m5 (Ch.askLs ls t res mode) vs5 := fun W i u hh =>
          ⟨hh.len, hh.vlen, ownsRow_setCell_below hh.row hwl _, fun j p hp => ownsRow_setCell_below (hh.hs j p hp) hwl _, fun j p hp => ownsRow_setCell_below (hh.qs j p hp) hwl _, hh.apart⟩
        exact (hset _ _ _ (hset _ _ _ (hset _ _ _ (hset _ _ _ O5.out)))).base (by omega)
      · have HAR := hid (Ch.askR_no HAC.out HCD.out hc0)
        clear own4
        obtain ⟨⟨x0, x1, x2, x3⟩, f0, f1, f2, f3⟩ := row4 hR
        go_wp2
        exact bodyPost_ret (v := .agg #[.int .i64 c, .bool false, .slice none 0 0, .slice none 0 0]) (by simp [results, Try.results13, go_sem, x0, x1, x2, x3]) rfl ⟨none, 0, 0, [], by rw [HAR.out], ⟨World.ownsRow_nil _ _ _ _, by rw [HAR.out]; exact OwnK.nil _ _ _, fun g hg => by simp [Value.ownBlock] at hg, by omega, by rw [HAR.out]; simp [Ch.lkSize, Ch.lkSum]⟩, (BW.setCell (p := ⟨w.heap.size, 0, none⟩) (Nat.le_refl _) _ |>.setCell (p := ⟨w.heap.size, 1, none⟩) (Nat.le_refl _) _ |>.setCell (p := ⟨w.heap.size, 2, none⟩) (Nat.le_refl _) _ |>.setCell (p := ⟨w.heap.size, 3, none⟩) (Nat.le_refl _) _)⟩
    · rw [hwt] at IW
      rw [Ch.askR_c (Ch.askC_waits HC.out HRM.out hwt) (by omega)]
      clear hwt HC HRM
      go_enter Try.func13, Try.ntmps13
      go_wp2_with fail
      refine (IA _ (h.below (kA _))).mono ?_
      rintro e w1 ⟨rfl, b1⟩
      have hR := heap_below b1 (heap_alloc_new w _)
      have BW := below_box b1
      have lz := (Array.getElem?_eq_some_iff.1 hR).1
      go_wp2_with fail
      refine (IR _).mono ?_
      rintro e w2 ⟨rfl, rfl⟩
      go_wp2_with fail
      refine (IM _).mono ?_
      rintro e w2 ⟨rfl, rfl⟩
      go_wp2_with fail
      refine (IW _ (h.below BW)).mono ?_
      rintro e w1' ⟨rfl, b1'⟩
      have hR := heap_below b1' hR
      have BW := BW.trans (b1'.mono BW.size)
      have lz := (Array.getElem?_eq_some_iff.1 hR).1
      obtain ⟨⟨x0, x1, x2, x3⟩, f0, f1, f2, f3⟩ := row4 hR
      go_wp2
      exact bodyPost_ret (v := .agg #[.int .i64 10, .bool false, .slice none 0 0, .slice none 0 0]) (by simp [results, Try.results13, go_sem, x0, x1, x2, x3]) rfl ⟨none, 0, 0, [], rfl, ⟨World.ownsRow_nil _ _ _ _, OwnK.nil _ _ _, fun g hg => by simp [Value.ownBlock] at hg, by omega, by simp [Ch.lkSize, Ch.lkSum]⟩, (BW.setCell (p := ⟨w.heap.size, 0, none⟩) (Nat.le_refl _) _ |>.setCell (p := ⟨w.heap.size, 1, none⟩) (Nat.le_refl _) _ |>.setCell (p := ⟨w.heap.size, 2, none⟩) (Nat.le_refl _) _ |>.setCell (p := ⟨w.heap.size, 3, none⟩) (Nat.le_refl _) _)⟩
  · rw [Ch.askR_c (Ch.askC_bad HC.out h0) h0]
    clear HC
    go_enter Try.func13, Try.ntmps13
    go_wp2_with fail
    refine (IA _ (h.below (kA _))).mono ?_
    rintro e w1 ⟨rfl, b1⟩
    have hR := heap_below b1 (heap_alloc_new w _)
    have BW := below_box b1
    have lz := (Array.getElem?_eq_some_iff.1 hR).1
    obtain ⟨⟨x0, x1, x2, x3⟩, f0, f1, f2, f3⟩ := row4 hR
    go_wp2
    exact bodyPost_ret (v := .agg #[.int .i64 c, .bool false, .slice none 0 0, .slice none 0 0]) (by simp [results, Try.results13, go_sem, x0, x1, x2, x3]) rfl ⟨none, 0, 0, [], rfl, ⟨World.ownsRow_nil _ _ _ _, OwnK.nil _ _ _, fun g hg => by simp [Value.ownBlock] at hg, by omega, by simp [Ch.lkSize, Ch.lkSum]⟩, (BW.setCell (p := ⟨w.heap.size, 0, none⟩) (Nat.le_refl _) _ |>.setCell (p := ⟨w.heap.size, 1, none⟩) (Nat.le_refl _) _ |>.setCell (p := ⟨w.heap.size, 2, none⟩) (Nat.le_refl _) _ |>.setCell (p := ⟨w.heap.size, 3, none⟩) (Nat.le_refl _) _)⟩

end Go.Proofs.Yteblnejpohjjmaa
