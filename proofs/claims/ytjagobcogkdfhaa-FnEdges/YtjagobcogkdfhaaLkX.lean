
/- ModeOf and WaitsAt of the model and of the program, and their laws. -/
import Derived.Test.YtjagobcogkdfhaaLkL
import Derived.Test.YtjagobcogkdfhaaLkXM
namespace Go.Proofs.Ytjagobcogkdfhaa
open Go.RowKit

theorem lkFaultAt {f : Nat} {ls : List Ch.Lock} {c : Int} (h : Ch.locksFault ls = c) {W : World} {args : Array Value} (hc : Calls Try.prog f args W fun e w' => e = .returned (.int .i64 (Ch.locksFault ls)) ∧ Below W.heap.size W w') : Calls Try.prog f args W fun e w' => e = .returned (.int .i64 c) ∧ Below W.heap.size W w' := by
  rw [h] at hc; exact hc

theorem txnLocks_any (a : Option Addr) (n cap : Nat) (t : Int) (ls : List Ch.Lock) (w : World) (h : LkAt w a n ls) (hs : Ch.lkSize ls ≤ 1048576) :
    Calls Try.prog 95 #[.slice a n cap, .int .i64 t] w fun e w' => e = .returned (.int .i64 (Ch.askedT ls t)) ∧ Below w.heap.size w w' := by
  have IL := fun W hW => implLocks_any a n cap ls W hW hs
  have IT := fun W => isTxn_any t W
  cases hf : (Ch.locksFault ls != 0)
  · have HO := hid (Ch.askedT_ok (t := t) hf)
    have h0 : Ch.locksFault ls = 0 := by simpa using hf
    rw [h0] at IL
    clear hf h0
    cases ht : Ch.inB t 1 999
    all_goals rw [ht] at IT HO
    all_goals
      go_enter Try.func95, Try.ntmps95
      go_wp2_with fail
      refine (IL _ h).mono ?_
      rintro e w1 ⟨rfl, b1⟩
      go_wp2_with fail
      refine (IT _).mono ?_
      rintro e w2 ⟨rfl, hw⟩
      obtain rfl := hw.symm
      go_wp2
      go_ret
      exact ⟨ret_int (by rw [HO.out]; rfl), b1⟩
  · have HO := hid (Ch.askedT_bad (t := t) hf)
    obtain ⟨c, HC⟩ : ∃ c, Hid (Ch.locksFault ls = c) := ⟨_, rfl⟩
    rw [HC.out] at IL hf HO
    have hf0 : ¬ c = 0 := by simpa using hf
    clear hf
    go_enter Try.func95, Try.ntmps95
    go_wp2_with fail
    refine (IL _ h).mono ?_
    rintro e w1 ⟨rfl, b1⟩
    go_wp2
    go_ret
    exact ⟨ret_int HO.out.symm, b1⟩

set_option maxHeartbeats 1000000 in
theorem resWaited_any (a : Option Addr) (n cap : Nat) (t : Int) (ls : List Ch.Lock) (w : World) (h : LkAt w a n ls) (hs : Ch.lkSize ls ≤ 1048576) :
    Calls Try.prog 96 #[.slice a n cap, .int .i64 t] w fun e w' => e = .returned (.tuple #[.int .i64 (Ch.waitsV ls t), .bool (Ch.waitsB ls t)]) ∧ Below w.heap.size w w' := by
  have HL := h.len
  have hn : n ≤ 1048576 := by unfold Ch.lkSize at hs; have := HL.out; omega
  go_enter Try.func96, Try.ntmps96
  go_wp2
  go_loopw [10] (fun i wr => ∃ k : Nat, k ≤ n ∧ i = .int .i64 k ∧ Hid (∀ j, j < k → Ch.hasH (Ch.lkAt ls j).qs t = false) ∧ Below w.heap.size w wr) (fun i _ => n - (intOf i).toNat)
  case atStart => exact ⟨0, Nat.zero_le _, rfl, (fun j hj => by omega), Below.refl _ _⟩
  case round =>
    obtain ⟨k, hk, rfl, HA, hB⟩ := hrel
    by_cases hlt : k < n
    · have hkl : k < ls.length := by have := HL.out; omega
      have HSz := hid (Ch.lk_one hs k)
      have HY := hid (fun he => Ch.waits_at hkl HA.out he)
      have HN := hid (fun he => Ch.step_none (p := fun j => Ch.hasH (Ch.lkAt ls j).qs t) HA.out he)
      obtain ⟨b, off, ah, nh, ch, aq, nq, cq, rfl, c0, c1, c2, h3, h4, _, _, _, _⟩ := (h.below hB).lock hlt
      have hQ4 := h4.hlen
      have hnq : nq ≤ 1048576 := by have := HSz.out; have := hQ4.out; omega
      have hbl := lt_of_cell c0
      have kW : ∀ o, Below wr.heap.size wr (wr.alloc o) := fun o => (Below.refl _ _).alloc (Nat.le_refl _) o
      have IH := fun W hW => has_any aq nq cq t (Ch.lkAt ls k).qs W hW hnq
      clear HSz hQ4
      generalize Ch.lkAt ls k = l at *
      obtain ⟨r, lhs, lqs⟩ := l
      simp only at c0 h3 h4 IH HY HN
      cases hh : Ch.hasH lqs t
      all_goals rw [hh] at IH
      all_goals
        go_wp2_with fail
        refine (IH _ (h4.below (kW _))).mono ?_
        rintro e w1 ⟨rfl, b1⟩
        have x0 := box_cell b1 0
        simp only [List.getElem?_toArray, List.getElem?_cons_zero] at x0
        have b1' := hB.trans ((below_box b1).mono hB.size)
        clear b1
      · go_wp2
        go_roundw
        case rel => exact ⟨k + 1, by omega, by go_num, HN.out hh, b1'⟩
        case measure => simp [intOf]; omega
      · have HY := hid (HY.out hh)
        go_wp2
        exact bodyPost_ret (v := .tuple #[.int .i64 r, .bool true]) (by simp [results, Try.results96, go_sem]) rfl ⟨by rw [HY.out.2.1, HY.out.2.2], b1'⟩
    · obtain rfl : k = n := by omega
      have HY := hid (Ch.waits_no (ls := ls) (t := t) (by have := HL.out; rw [← this]; exact HA.out))
      go_wp2
      exact bodyPost_ret (v := .tuple #[.int .i64 0, .bool false]) (by simp [results, Try.results96, go_sem]) rfl ⟨by rw [HY.out.2.1, HY.out.2.2], hB⟩

set_option maxHeartbeats 1000000 in
theorem l6Waits_any (a : Option Addr) (n cap : Nat) (t : Int) (ls : List Ch.Lock) (w : World) (h : LkAt w a n ls) (hs : Ch.lkSize ls ≤ 1048576) :
    Calls Try.prog 179 #[.slice a n cap, .int .i64 t] w fun e w' => e = .returned (.int .i64 (Ch.waitsL ls t)) ∧ w' = w := by
  have HL := h.len
  have hn : n ≤ 1048576 := by unfold Ch.lkSize at hs; have := HL.out; omega
  go_enter Try.func179, Try.ntmps179
  go_wp2
  go_loop [5] (fun i => ∃ k : Nat, k ≤ n ∧ i = .int .i64 k ∧ Hid (∀ j, j < k → Ch.hasH (Ch.lkAt ls j).qs t = false)) (fun i => n - (intOf i).toNat)
  case atStart => exact ⟨0, Nat.zero_le _, rfl, (fun j hj => by omega)⟩
  case round =>
    obtain ⟨k, hk, rfl, HA⟩ := hrel
    by_cases hlt : k < n
    · have hkl : k < ls.length := by have := HL.out; omega
      have HSz := hid (Ch.lk_one hs k)
      have HY := hid (fun he => Ch.waits_at hkl HA.out he)
      have HN := hid (fun he => Ch.step_none (p := fun j => Ch.hasH (Ch.lkAt ls j).qs t) HA.out he)
      obtain ⟨b, off, ah, nh, ch, aq, nq, cq, rfl, c0, c1, c2, h3, h4, _, _, _, _⟩ := h.lock hlt
      have hQ4 := h4.hlen
      have hnq : nq ≤ 1048576 := by have := HSz.out; have := hQ4.out; omega
      have hbl := lt_of_cell c0
      have IH := fun W hW => l6At_any aq nq cq t (Ch.lkAt ls k).qs W hW hnq
      clear HSz hQ4
      generalize Ch.lkAt ls k = l at *
      obtain ⟨r, lhs, lqs⟩ := l
      simp only at c0 h3 h4 IH HY HN
      rcases Ch.atH_cases lqs t with ⟨he, HAT, _⟩ | ⟨j, hj, HAT, he, _⟩
      · have HE := hid he
        clear he
        rw [HAT] at IH
        go_wp2_with fail
        refine (IH _ h4).mono ?_
        rintro e w1 ⟨rfl, hw⟩
        obtain rfl := hw.symm
        go_wp2
        go_round
        case rel => exact ⟨k + 1, by omega, by go_num, HN.out HE.out⟩
        case measure => simp [intOf]; omega
      · have HE := hid he
        clear he
        rw [HAT] at IH
        go_wp2_with fail
        refine (IH _ h4).mono ?_
        rintro e w1 ⟨rfl, hw⟩
        obtain rfl := hw.symm
        go_wp2
        go_ret
        exact ⟨ret_int (HY.out HE.out).1.symm, rfl⟩
    · obtain rfl : k = n := by omega
      have HY := hid (Ch.waits_no (ls := ls) (t := t) (by have := HL.out; rw [← this]; exact HA.out))
      go_wp2
      go_ret
      exact ⟨ret_int HY.out.1.symm, rfl⟩

set_option maxHeartbeats 1000000 in
theorem implWaitsAt_any (a : Option Addr) (n cap : Nat) (t : Int) (ls : List Ch.Lock) (w : World) (h : LkAt w a n ls) (hs : Ch.lkSize ls ≤ 1048576) :
    Calls Try.prog 27 #[.slice a n cap, .int .i64 t] w fun e w' => e = .returned (.agg #[.int .i64 (Ch.waitsR ls t).1, .int .i64 (Ch.waitsR ls t).2]) ∧ Below w.heap.size w w' := by
  have IA := fun W hW => txnLocks_any a n cap t ls W hW hs
  have kA : ∀ o, Below w.heap.size w (w.alloc o) := fun o => (Below.refl _ _).alloc (Nat.le_refl _) o
  obtain ⟨c, HC⟩ : ∃ c, Hid (Ch.askedT ls t = c) := ⟨_, rfl⟩
  rw [HC.out] at IA
  by_cases h0 : c = 0
  · subst h0
    have IW := fun W hW => resWaited_any a n cap t ls W hW hs
    rcases Ch.waits_is ls t with ⟨hb, hl, hv, _⟩ | ⟨hb, k, hk, hl, hv, _⟩
    · rw [Ch.waitsR_no HC.out hb]
      rw [hb, hv] at IW
      clear HC hb hl hv
      go_enter Try.func27, Try.ntmps27
      go_wp2_with fail
      refine (IA _ (h.below (kA _))).mono ?_
      rintro e w1 ⟨rfl, b1⟩
      have x0 := box_cell b1 0
      have x1 := box_cell b1 1
      simp only [List.getElem?_toArray, List.getElem?_cons_zero, List.getElem?_cons_succ] at x0 x1
      have f0 := (bcell b1).2 w.heap.size 0 (by simp)
      have f1 := (bcell b1).2 w.heap.size 1 (by simp)
      simp [go_sem] at f0 f1
      have b1 := below_box b1
      have lz := lt_of_cell x0
      go_wp2_with fail
      refine (IW _ (h.below b1)).mono ?_
      rintro e w2 ⟨rfl, b2⟩
      have x0 := keep_cell b2 x0
      have x1 := keep_cell b2 x1
      have f0 := ((bcell b2).2 w.heap.size 0 lz).trans f0
      have f1 := ((bcell b2).2 w.heap.size 1 lz).trans f1
      have lz := lt_of_cell x0
      have b1 := b1.trans (b2.mono b1.size)
      go_wp2
      refine bodyPost_ret (v := .agg #[.int .i64 4, .int .i64 0]) (by simp [results, Try.results27, go_sem, x0, x1]) rfl ⟨rfl, ?_⟩
      exact (b1.setCell (p := ⟨w.heap.size, 0, none⟩) (Nat.le_refl _) _).setCell (p := ⟨w.heap.size, 1, none⟩) (Nat.le_refl _) _
    · rw [Ch.waitsR_yes HC.out hb, hl]
      have hr0 : ¬ (Ch.lkAt ls k).r < 0 := by
        have := (Ch.one_good ((Ch.locks_good (Ch.askedT_good HC.out).1).1 k hk)).1
        omega
      rw [hb, hv] at IW
      clear HC hb hl hv
      generalize (Ch.lkAt ls k).r = r at *
      go_enter Try.func27, Try.ntmps27
      go_wp2_with fail
      refine (IA _ (h.below (kA _))).mono ?_
      rintro e w1 ⟨rfl, b1⟩
      have x0 := box_cell b1 0
      have x1 := box_cell b1 1
      simp only [List.getElem?_toArray, List.getElem?_cons_zero, List.getElem?_cons_succ] at x0 x1
      have f0 := (bcell b1).2 w.heap.size 0 (by simp)
      have f1 := (bcell b1).2 w.heap.size 1 (by simp)
      simp [go_sem] at f0 f1
      have b1 := below_box b1
      have lz := lt_of_cell x0
      go_wp2_with fail
      refine (IW _ (h.below b1)).mono ?_
      rintro e w2 ⟨rfl, b2⟩
      have x0 := keep_cell b2 x0
      have x1 := keep_cell b2 x1
      have f0 := ((bcell b2).2 w.heap.size 0 lz).trans f0
      have f1 := ((bcell b2).2 w.heap.size 1 lz).trans f1
      have lz := lt_of_cell x0
      have b1 := b1.trans (b2.mono b1.size)
      go_wp2
      refine bodyPost_ret (v := .agg #[.int .i64 0, .int .i64 r]) (by simp [results, Try.results27, go_sem, x0, x1]) rfl ⟨rfl, ?_⟩
      exact (b1.setCell (p := ⟨w.heap.size, 0, none⟩) (Nat.le_refl _) _).setCell (p := ⟨w.heap.size, 1, none⟩) (Nat.le_refl _) _
  · rw [Ch.waitsR_bad HC.out h0]
    clear HC
    go_enter Try.func27, Try.ntmps27
    go_wp2_with fail
    refine (IA _ (h.below (kA _))).mono ?_
    rintro e w1 ⟨rfl, b1⟩
    have x0 := box_cell b1 0
    have x1 := box_cell b1 1
    simp only [List.getElem?_toArray, List.getElem?_cons_zero, List.getElem?_cons_succ] at x0 x1
    have f0 := (bcell b1).2 w.heap.size 0 (by simp)
    have f1 := (bcell b1).2 w.heap.size 1 (by simp)
    simp [go_sem] at f0 f1
    have b1 := below_box b1
    have lz := lt_of_cell x0
    go_wp2
    refine bodyPost_ret (v := .agg #[.int .i64 c, .int .i64 0]) (by simp [results, Try.results27, go_sem, x0, x1]) rfl ⟨rfl, ?_⟩
    exact (b1.setCell (p := ⟨w.heap.size, 0, none⟩) (Nat.le_refl _) _).setCell (p := ⟨w.heap.size, 1, none⟩) (Nat.le_refl _) _

end Go.Proofs.Ytjagobcogkdfhaa
