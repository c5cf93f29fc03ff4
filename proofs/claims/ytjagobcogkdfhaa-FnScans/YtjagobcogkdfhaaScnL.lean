
/- The law FnScans. -/
import Derived.Test.YtjagobcogkdfhaaDrwZ
import Derived.Test.YtjagobcogkdfhaaLvsN
import Derived.Test.YtjagobcogkdfhaaScanI
import Derived.Test.YtjagobcogkdfhaaLvL
import Derived.Test.YtjagobcogkdfhaaMapM
import Derived.Deep.DeepCutAuto
namespace Go.Proofs.Ytjagobcogkdfhaa
open Go.RowKit

theorem fieldRs (c : Int) (a : Option Addr) (m k : Nat) (W : World) : (Instr.field 29 (.agg #[.int .i64 c, .slice a m k]) 0).run Try.prog W = .ok (.int .i64 c) W ∧ (Instr.field 29 (.agg #[.int .i64 c, .slice a m k]) 1).run Try.prog W = .ok (.slice a m k) W := ⟨by kernel_rfl, by kernel_rfl⟩
theorem Ch.flat_few {ls : List (List Ch.Row)} (hg : Ch.leavesFault ls = 0) : ls.flatten.length ≤ 240 := by
  obtain ⟨h1, h2, _, _⟩ := (Ch.good_iff ls).1 hg
  have : ∀ (xs : List (List Ch.Row)), (∀ l ∈ xs, l.length ≤ 4) → xs.flatten.length ≤ 4 * xs.length := by
    intro xs
    induction xs with
    | nil => intro _; simp
    | cons x xs ih =>
      intro h
      have := ih (fun l hl => h l (List.mem_cons_of_mem _ hl))
      have := h x (List.mem_cons_self ..)
      simp at *; omega
  have := this ls (fun l hl => (h2 l hl).2)
  omega
/-- The rows of leaves without a fault make a map. -/
theorem Ch.map_flat {ls : List (List Ch.Row)} (hg : Ch.leavesFault ls = 0) : Ch.mapRR ls.flatten = (0, Ch.noGhost ls.flatten) := by
  obtain ⟨_, _, h3, h4⟩ := (Ch.good_iff ls).1 hg
  refine Ch.mapRR_ok ?_
  have hl := Ch.flat_few hg
  rw [Ch.mapF_rise (by omega) (Ch.each_zero h3)]
  exact (Ch.rise_iff ls.flatten none).2 ⟨h3, h4, fun q hq => by cases hq⟩
theorem Ch.scan_few (lo hi : Int) (rs : List Ch.Row) : (Ch.scan lo hi rs).length ≤ (Ch.noGhost rs).length := by
  induction rs with
  | nil => simp [Ch.scan, Ch.noGhost]
  | cons r rs ih =>
    unfold Ch.scan Ch.noGhost at *
    rw [List.filter_cons, List.filter_cons]
    by_cases h : Ch.inScan lo hi r = true
    · have hg : (!r.g) = true := by unfold Ch.inScan at h; simp at h ⊢; exact h.2
      rw [if_pos h, if_pos hg]; simp; exact ih
    · rw [if_neg h]
      split
      · simp; omega
      · exact ih
theorem Ch.scanR_zero {ls : List (List Ch.Row)} {lo hi : Int} (h : (Ch.scanR ls lo hi).1 = 0) : Ch.leavesFault ls = 0 ∧ (Ch.scanR ls lo hi).2 = Ch.scan lo hi ls.flatten := by
  by_cases h1 : (Ch.leavesFault ls != 0) = true
  · rw [Ch.scanR_code h1] at h
    simp only at h
    rw [h] at h1; cases h1
  · have h1' : (Ch.leavesFault ls != 0) = false := by simpa using h1
    refine ⟨by simpa using h1, ?_⟩
    cases h2 : (Ch.inB lo 0 99 && Ch.inB hi 0 99)
    · rw [Ch.scanR_range h1' h2] at h; cases h
    · rw [Ch.scanR_ok h1' h2]

set_option linter.unusedSimpArgs false in
set_option maxRecDepth 100000 in
set_option maxHeartbeats 16000000 in
theorem lawScans_any (a : Option Addr) (n cap : Nat) (zs : List Int) (w : World) (h : CellsAt w a n (bts zs)) (hb : IsB zs) :
    Calls Try.prog 3 #[.slice a n cap] w fun e w' => e = .returned (.bool true) ∧ Below w.heap.size w w' := by
  by_cases hbig : 1048576 < n
  · have hd : decide ((1048576 : Int) < (n : Int)) = true := by simp; omega
    have BI := fun W => big_any a n cap W
    rw [hd] at BI
    go_enter Try.func3, Try.ntmps3
    go_wp2_with fail
    refine (BI _).mono ?_
    rintro e w' ⟨rfl, rfl⟩
    go_wp2
    go_ret
    exact ⟨rfl, Below.refl _ _⟩
  have hn : n ≤ 1048576 := by omega
  have hd : decide ((1048576 : Int) < (n : Int)) = false := by simp; omega
  have BI := fun W => big_any a n cap W
  rw [hd] at BI
  clear hbig
  go_enter Try.func3, Try.ntmps3
  go_wp2_with fail
  refine (BI _).mono ?_
  rintro e w' ⟨rfl, rfl⟩
  go_wp2_with fail
  refine (drawScan_any a n cap zs _ h hb hn).mono ?_
  rintro e w1 ⟨ls, a1, n1, c1, lo, hi, hbe, rfl, o1, b1⟩
  have hs : Ch.lvSize ls ≤ 1048576 := by have := hbe.1; omega
  have hsa := small_at hs
  have II := implScanRows_any a1 n1 c1 lo hi ls w1 (o1.at hsa) hs
  have SS := fun (W : World) (hW : OwnLv W w'.heap.size (.slice a1 n1 c1) n1 ls) => specScanRows_any a1 n1 c1 lo hi ls W (OwnLv.at hW hsa) hs
  have HZ := hid (fun h0 => Ch.scanR_zero (ls := ls) (lo := lo) (hi := hi) h0)
  replace SS : ∀ W, OwnLv W w'.heap.size (.slice a1 n1 c1) n1 ls → Calls Try.prog 19 #[.slice a1 n1 c1, .int .i64 lo, .int .i64 hi] W fun e W' => ∃ a' m c', e = .returned (.agg #[.int .i64 (Ch.scanR ls lo hi).1, .slice a' m c']) ∧ Below W.heap.size W W' := fun W hW => (SS W hW).mono (by rintro e W' ⟨a', m, c', h1, _, _, h4⟩; exact ⟨a', m, c', h1, h4⟩)
  generalize (Ch.scanR ls lo hi).2 = rs at *
  generalize (Ch.scanR ls lo hi).1 = c at *
  clear hbe
  go_wp2_with fail
  refine II.mono ?_
  rintro e w2 ⟨a2, m2, c2, rfl, hm2, o2, b2⟩
  have bE := b1.trans (b2.mono b1.size)
  have o1 := o1.below b2
  have bA2 : ∀ o, Below w2.heap.size w2 (w2.alloc o) := fun o => (Below.refl _ _).alloc (Nat.le_refl _) _
  clear II b1 b2
  by_cases hc0 : c = 0
  rotate_left
  · have hc : (c != 0) = true := by simpa using hc0
    have hcc : (c == c) = true := by simp
    clear HZ hc0
    go_wp2
    refine wp_region_noPanic ?_
    refine wp_region_held_drew (S := fun W' => W'.cell? ⟨w2.heap.size, 0, none⟩ = some (.int .i64 c) ∧ Below w2.heap.size w2 W') (by kernel_rfl) (⟨by simp [go_sem], (bA2 _).drew⟩) (fun hH => ?_)
    refine hTake (i := 0) (v := ?_) rfl (by kernel_rfl) (by kernel_rfl) (by kernel_rfl) (by rfl) ?_ hH ?_
    rotate_left
    · intro W hW; (try dsimp only at hW); go_simp <;> with_reducible rfl
    simp only [Act.put, List.setIfInBounds_toArray, List.set_cons_zero, List.set_cons_succ]
    refine hTake (i := 1) (v := ?_) rfl (by kernel_rfl) (by kernel_rfl) (by kernel_rfl) (by rfl) ?_ hH ?_
    rotate_left
    · intro W hW; (try dsimp only at hW); go_simp <;> with_reducible rfl
    simp only [Act.put, List.setIfInBounds_toArray, List.set_cons_zero, List.set_cons_succ]
    refine hTake (i := 2) (v := ?_) rfl (by kernel_rfl) (by kernel_rfl) (by kernel_rfl) (by rfl) ?_ hH ?_
    rotate_left
    · intro W hW; (try dsimp only at hW); go_simp <;> with_reducible rfl
    simp only [Act.put, List.setIfInBounds_toArray, List.set_cons_zero, List.set_cons_succ]
    refine hTake (i := 5) (v := ?_) rfl (by kernel_rfl) (by kernel_rfl) (by kernel_rfl) (by rfl) ?_ hH ?_
    rotate_left
    · intro W hW; (try dsimp only at hW); go_simp <;> with_reducible rfl
    simp only [Act.put, List.setIfInBounds_toArray, List.set_cons_zero, List.set_cons_succ]
    refine hTake (i := 6) (v := ?_) rfl (by kernel_rfl) (by kernel_rfl) (by kernel_rfl) (by rfl) ?_ hH ?_
    rotate_left
    · intro W hW; (try dsimp only at hW); go_simp <;> with_reducible rfl
    simp only [Act.put, List.setIfInBounds_toArray, List.set_cons_zero, List.set_cons_succ]
    refine wpAnyH_ready (rs := [3]) (by kernel_rfl) (by simp) ?_
    refine AllReadyH.cons rfl (fun K hK => ?_) AllReadyH.nil
    go_simp
    refine (SS _ (o1.below hH.2)).mono ?_
    rintro e w3 ⟨a3, m3, c3, rfl, b3⟩
    have hfd := fun W => (fieldRs c a3 m3 c3 W).1
    go_wp2_with fail
    refine hK.out _ _ ?_ (fun hH => ?_)
    · exact ⟨keep_cell b3 hH.1, hH.2.trans (b3.mono hH.2.size)⟩
    clear hK K
    refine hTake (i := 4) (v := ?_) rfl (by kernel_rfl) (by kernel_rfl) (by kernel_rfl) (by rfl) ?_ hH ?_
    rotate_left
    · intro W hW; (try dsimp only at hW); go_simp <;> with_reducible rfl
    simp only [Act.put, List.setIfInBounds_toArray, List.set_cons_zero, List.set_cons_succ]
    refine hTake (i := 7) (v := ?_) rfl (by kernel_rfl) (by kernel_rfl) (by kernel_rfl) (by rfl) ?_ hH ?_
    rotate_left
    · intro W hW; (try dsimp only at hW); go_simp <;> with_reducible rfl
    simp only [Act.put, List.setIfInBounds_toArray, List.set_cons_zero, List.set_cons_succ]
    refine hTake (i := 8) (v := ?_) rfl (by kernel_rfl) (by kernel_rfl) (by kernel_rfl) (by rfl) ?_ hH ?_
    rotate_left
    · intro W hW; (try dsimp only at hW); go_simp <;> with_reducible rfl
    simp only [Act.put, List.setIfInBounds_toArray, List.set_cons_zero, List.set_cons_succ]
    refine wpAnyH_done (by kernel_rfl) ?_ _
    refine NoPanic.normal ?_
    have b6 := hH.2
    clear hH
    go_wp2
    go_ret
    exact ⟨rfl, bE.trans (b6.mono bE.size)⟩
  subst hc0
  obtain ⟨hg, hrs⟩ := HZ.out rfl
  have hF := Ch.flat_few hg
  have HMap := hid (Ch.map_flat hg)
  have hgl : ∀ k, k < n1 → (ls.getD k []).length ≠ 0 := fun k hk => (Ch.good_leaf hg k (by have := o1.1; omega)).1
  have IR := fun (W : World) (hW : OwnLv W w'.heap.size (.slice a1 n1 c1) n1 ls) => implRowsOf_any a1 n1 c1 ls W (OwnLv.at hW hsa) hs
  have SR := fun (W : World) (hW : OwnLv W w'.heap.size (.slice a1 n1 c1) n1 ls) => specRowsOf_any a1 n1 c1 ls W (OwnLv.at hW hsa) hs
  have hR : Ch.rowsR ls = (0, ls.flatten) := by unfold Ch.rowsR; rw [hg]; rfl
  rw [hR] at IR SR
  have HLe := hid (Ch.scan_few lo hi ls.flatten)
  rw [← hrs] at HLe
  have Hrs := hid hrs
  clear hrs HZ SS hR
  generalize ls.flatten = F at *
  have o2' := owns_below o2 (bA2 (.cells #[.int .i64 0, .slice a2 m2 c2] 29))
  have bG := bE.alloc bE.size (.cells #[.int .i64 0, .slice a2 m2 c2] 29)
  go_wp2_with fail
  refine (IR _ (o1.below (bA2 _))).mono ?_
  rintro e w3 ⟨a3, m3, c3, rfl, hm3, o3, b3⟩
  have x1 := box_cell b3 1
  simp at x1
  have b3w := below_box b3
  have o1 := o1.below b3w
  have o2 := owns_below o2 b3w
  have bE := bE.trans (b3w.mono bE.size)
  have z3 := b3.size
  simp at z3
  have hm3F : m3 = F.length := (owns_cells o3).rlen.out
  have bA3 : ∀ o, Below w3.heap.size w3 (w3.alloc o) := fun o => (Below.refl _ _).alloc (Nat.le_refl _) _
  clear b3 b3w bG o2' IR
  have o3x := owns_below o3 (bA3 (.cells #[.int .i64 0, .slice a3 m3 c3] 29))
  have kN := (bA3 (.cells #[.int .i64 0, .slice a3 m3 c3] 29)).alloc (by simp) (.cells #[] 33)
  have y0 : ((w3.alloc (.cells #[.int .i64 0, .slice a3 m3 c3] 29)).alloc (.cells #[] 33)).cell? ⟨w3.heap.size, 0, none⟩ = some (.int .i64 0) := keep_cell ((Below.refl _ _).alloc (Nat.le_refl _) _) (by simp [go_sem])
  have y1 : ((w3.alloc (.cells #[.int .i64 0, .slice a3 m3 c3] 29)).alloc (.cells #[] 33)).cell? ⟨w3.heap.size, 1, none⟩ = some (.slice a3 m3 c3) := keep_cell ((Below.refl _ _).alloc (Nat.le_refl _) _) (by simp [go_sem])
  have oq0 := empty_rows (w3.alloc (.cells #[.int .i64 0, .slice a3 m3 c3] 29)) (w3.heap.size + 1) (by simp)
  rw [show (w3.alloc (.cells #[.int .i64 0, .slice a3 m3 c3] 29)).heap.size = w3.heap.size + 1 by simp] at oq0
  have HF := hid hm3F
  clear hm3F o3x
  go_wp2
  go_loopw [8, 9] (fun q i wr => ∃ (k m : Nat) (a' : Option Addr) (c' : Nat), k ≤ m3 ∧ m ≤ k ∧ i = .int .i64 k ∧ q = .slice a' m c' ∧ wr.ownsRow (w3.heap.size + 1) 33 3 (.slice a' m c') m (rcells (Ch.scan lo hi (F.take k))) ∧ wr.cell? ⟨w3.heap.size, 0, none⟩ = some (.int .i64 0) ∧ wr.cell? ⟨w3.heap.size, 1, none⟩ = some (.slice a3 m3 c3) ∧ w3.heap.size + 1 ≤ wr.heap.size ∧ Below w3.heap.size w3 wr) (fun _ i _ => m3 - (intOf i).toNat)
  case atStart => exact ⟨0, 0, _, _, Nat.zero_le _, Nat.le_refl _, rfl, rfl, by simpa [Ch.scan] using oq0, y0, y1, by simp, kN⟩
  case round =>
    clear oq0 y0 y1 kN
    obtain ⟨k, m, a', c', hk, hmk, rfl, rfl, own, y0, y1, hsz, hB⟩ := hrel
    have hy := lt_of_cell y0
    by_cases hlt : k < m3
    · have hkl : k < F.length := by have := HF.out; omega
      have HY := hid (fun hin => Ch.scan_yes (lo := lo) (hi := hi) hkl hin)
      have HN := hid (fun hin => Ch.scan_no (lo := lo) (hi := hi) hkl hin)
      obtain ⟨b, off, rfl, q0, q1, q2⟩ := (owns_cells (owns_below o3 hB)).row hlt
      have hbl := lt_of_cell q0
      generalize F.getD k Ch.Row.zero = r at *
      obtain ⟨rk, rv, rg⟩ := r
      simp only [Ch.inScan, Ch.inB] at q0 q1 q2 HY HN
      generalize Ch.scan lo hi (F.take k) = S at *
      have hsum : m + 1 ≤ 2097152 := by omega
      have kE : Below wr.heap.size wr (wr.alloc (.cells #[.int .i64 rk, .int .i64 rv, .bool rg] 33)) := (Below.refl _ _).alloc (Nat.le_refl _) _
      have y0' := keep_cell kE y0
      have y1' := keep_cell kE y1
      by_cases h1 : lo ≤ rk
      rotate_left
      · replace HN := hid (HN.out (by simp [h1]))
        clear HY
        go_wp2
        go_roundw
        case rel => exact ⟨k + 1, m, a', c', by omega, by omega, by go_num, rfl, by rw [HN.out]; exact owns_below own kE, y0', y1', by simp; omega, hB.trans (kE.mono hB.size)⟩
        case measure => simp [intOf]; omega
      by_cases h2 : rk ≤ hi
      rotate_left
      · replace HN := hid (HN.out (by simp [h2]))
        clear HY
        go_wp2
        go_roundw
        case rel => exact ⟨k + 1, m, a', c', by omega, by omega, by go_num, rfl, by rw [HN.out]; exact owns_below own kE, y0', y1', by simp; omega, hB.trans (kE.mono hB.size)⟩
        case measure => simp [intOf]; omega
      cases rg
      rotate_left
      · replace HN := hid (HN.out (by simp))
        clear HY
        go_wp2
        go_roundw
        case rel => exact ⟨k + 1, m, a', c', by omega, by omega, by go_num, rfl, by rw [HN.out]; exact owns_below own kE, y0', y1', by simp; omega, hB.trans (kE.mono hB.size)⟩
        case measure => simp [intOf]; omega
      replace HY := hid (HY.out (by simp [h1, h2]))
      clear HN
      have kQ := kE.alloc kE.size (.cells #[.int .i64 rk, .int .i64 rv, .bool false] 33)
      have own3 := owns_below own kQ
      have hC3 := new_row (w := wr.alloc (.cells #[.int .i64 rk, .int .i64 rv, .bool false] 33)) (r := ⟨rk, rv, false⟩) (t := 33) (H := wr.heap.size + 1) (by simp)
      have hb3 : w3.heap.size + 1 ≤ ((wr.alloc (.cells #[.int .i64 rk, .int .i64 rv, .bool false] 33)).alloc (.cells #[.int .i64 rk, .int .i64 rv, .bool false] 33)).heap.size := by simp; omega
      go_wp2_with (at_builtin; go_must (refine wpList_appG (.tmp 65) (.tmp 67) (w3.heap.size + 1) (.slice a' m c') m S 1 [⟨rk, rv, false⟩] hsum (by omega) ?_ ?_ ?_ ?_ own3 hb3 ?_; exact rfl; exact rfl; exact rfl; exact ⟨_, _, rfl, hC3⟩; intro a5 c5 w5 own5 gr5 at5))
      go_roundw
      case rel =>
        rw [← HY.out] at own5
        have g0 := grown_cell gr5 (keep_cell kQ y0) (own_apart own3 (by omega))
        have g1 := grown_cell gr5 (keep_cell kQ y1) (own_apart own3 (by omega))
        have b3 := hB.trans (kQ.mono hB.size)
        have b5 := b3.grown gr5 b3.size (fun g hg => by have := (owns_lt own3 g hg).1; omega)
        exact ⟨k + 1, m + 1, a5, c5, by omega, by omega, by go_num, rfl, own5, g0, g1, by have := gr5.size; simp at this ⊢; omega, b5⟩
      case measure => simp [intOf]; omega
    · obtain rfl : k = m3 := by omega
      have HWF : Hid (F.take k = F) := by have := HF.out; show _ = _; rw [this]; exact List.take_length
      rw [HWF.out, ← Hrs.out] at own
      have hm1 : m ≤ 1048576 := by omega
      have o1 := o1.below hB
      have o2 := owns_below o2 hB
      have o3 := owns_below o3 hB
      have x1 := keep_cell hB x1
      have bE := bE.trans (hB.mono bE.size)
      have MI := implMapOf_any a3 k c3 F wr (owns_cells o3) (by omega)
      rw [HMap.out] at MI
      generalize Ch.noGhost F = G at *
      clear hB
      go_wp2_with fail
      refine MI.mono ?_
      rintro e w5 ⟨a5, m5, c5, rfl, hm5, o5, b5⟩
      have o1 := o1.below b5
      have o2 := owns_below o2 b5
      have o3 := owns_below o3 b5
      have oq := owns_below own b5
      have x1 := keep_cell b5 x1
      have y0 := keep_cell b5 y0
      have y1 := keep_cell b5 y1
      have bE := bE.trans (b5.mono bE.size)
      have bA5 : ∀ o, Below w5.heap.size w5 (w5.alloc o) := fun o => (Below.refl _ _).alloc (Nat.le_refl _) _
      have hle : ((m2 : Nat) : Int) ≤ (m5 : Int) := by
        have e1 := (owns_cells o2).rlen.out
        have e2 := (owns_cells o5).rlen.out
        have := HLe.out
        omega
      have LW := fun W h1 h2 => lwRows_any a2 a' m2 c2 m c' rs rs W h1 h2 hm2 hm1
      have LA := fun W A C h1 h2 => lwRows_any a3 A k c3 k C F F W h1 h2 (by omega) (by omega)
      rw [Ch.sameL_self] at LW LA
      replace SR : ∀ W, OwnLv W w'.heap.size (.slice a1 n1 c1) n1 ls → Calls Try.prog 23 #[.slice a1 n1 c1] W fun e W' => ∃ A C, e = .returned (.agg #[.int .i64 0, .slice A k C]) ∧ W'.ownsRow W.heap.size 33 3 (.slice A k C) k (rcells F) ∧ Below W.heap.size W W' := fun W hW => (SR W hW).mono (by
        rintro e W' ⟨A, M, C, h1, _, h3, h4⟩
        have e1 := (owns_cells h3).rlen.out
        have : M = k := by have := HF.out; omega
        subst this
        exact ⟨A, C, h1, h3, h4⟩)
      clear MI b5 own
      have x0d : True := trivial
      go_wp2
      refine wp_region_noPanic ?_
      refine wp_region_held_drew (S := fun W' => W'.cell? ⟨w2.heap.size, 1, none⟩ = some (.slice a2 m2 c2) ∧ W'.cell? ⟨w3.heap.size, 0, none⟩ = some (.int .i64 0) ∧ W'.cell? ⟨w3.heap.size, 1, none⟩ = some (.slice a3 k c3) ∧ W'.cell? ⟨w5.heap.size, 0, none⟩ = some (.int .i64 0) ∧ W'.cell? ⟨w5.heap.size, 1, none⟩ = some (.slice a5 m5 c5) ∧ Below w5.heap.size w5 W') (by kernel_rfl) (⟨keep_cell (bA5 _) x1, keep_cell (bA5 _) y0, keep_cell (bA5 _) y1, by simp [go_sem], by simp [go_sem], (bA5 _).drew⟩) (fun hH => ?_)
      refine hTake (i := 0) (v := ?_) rfl (by kernel_rfl) (by kernel_rfl) (by kernel_rfl) (by rfl) ?_ hH ?_
      rotate_left
      · intro W hW; (try dsimp only at hW); go_simp <;> with_reducible rfl
      simp only [Act.put, List.setIfInBounds_toArray, List.set_cons_zero, List.set_cons_succ]
      refine hTake (i := 1) (v := ?_) rfl (by kernel_rfl) (by kernel_rfl) (by kernel_rfl) (by rfl) ?_ hH ?_
      rotate_left
      · intro W hW; (try dsimp only at hW); go_simp <;> with_reducible rfl
      simp only [Act.put, List.setIfInBounds_toArray, List.set_cons_zero, List.set_cons_succ]
      refine hTake (i := 2) (v := ?_) rfl (by kernel_rfl) (by kernel_rfl) (by kernel_rfl) (by rfl) ?_ hH ?_
      rotate_left
      · intro W hW; (try dsimp only at hW); go_simp <;> with_reducible rfl
      simp only [Act.put, List.setIfInBounds_toArray, List.set_cons_zero, List.set_cons_succ]
      refine hTake (i := 3) (v := ?_) rfl (by kernel_rfl) (by kernel_rfl) (by kernel_rfl) (by rfl) ?_ hH ?_
      rotate_left
      · intro W hW; (try dsimp only at hW); go_simp <;> with_reducible rfl
      simp only [Act.put, List.setIfInBounds_toArray, List.set_cons_zero, List.set_cons_succ]
      refine hTake (i := 4) (v := ?_) rfl (by kernel_rfl) (by kernel_rfl) (by kernel_rfl) (by rfl) ?_ hH ?_
      rotate_left
      · intro W hW; (try dsimp only at hW); go_simp <;> with_reducible rfl
      simp only [Act.put, List.setIfInBounds_toArray, List.set_cons_zero, List.set_cons_succ]
      refine hTake (i := 5) (v := ?_) rfl (by kernel_rfl) (by kernel_rfl) (by kernel_rfl) (by rfl) ?_ hH ?_
      rotate_left
      · intro W hW; (try dsimp only at hW); go_simp <;> with_reducible rfl
      simp only [Act.put, List.setIfInBounds_toArray, List.set_cons_zero, List.set_cons_succ]
      refine hTake (i := 6) (v := ?_) rfl (by kernel_rfl) (by kernel_rfl) (by kernel_rfl) (by rfl) ?_ hH ?_
      rotate_left
      · intro W hW; (try dsimp only at hW); go_simp <;> with_reducible rfl
      simp only [Act.put, List.setIfInBounds_toArray, List.set_cons_zero, List.set_cons_succ]
      refine wpAnyH_ready (rs := [7]) (by kernel_rfl) (by simp) ?_
      refine AllReadyH.cons rfl (fun K hK => ?_) AllReadyH.nil
      go_simp
      refine (LW _ (owns_cells (owns_below o2 hH.2.2.2.2.2)) (owns_cells (owns_below oq hH.2.2.2.2.2))).mono ?_
      rintro e w6 ⟨rfl, b6⟩
      go_wp2_with fail
      refine hK.out _ _ ?_ (fun hH => ?_)
      · exact ⟨keep_cell b6 hH.1, keep_cell b6 hH.2.1, keep_cell b6 hH.2.2.1, keep_cell b6 hH.2.2.2.1, keep_cell b6 hH.2.2.2.2.1, hH.2.2.2.2.2.trans (b6.mono hH.2.2.2.2.2.size)⟩
      clear hK K
      refine hTake (i := 8) (v := ?_) rfl (by kernel_rfl) (by kernel_rfl) (by kernel_rfl) (by rfl) ?_ hH ?_
      rotate_left
      · intro W hW; (try dsimp only at hW); go_simp <;> with_reducible rfl
      simp only [Act.put, List.setIfInBounds_toArray, List.set_cons_zero, List.set_cons_succ]
      refine hTake (i := 9) (v := ?_) rfl (by kernel_rfl) (by kernel_rfl) (by kernel_rfl) (by rfl) ?_ hH ?_
      rotate_left
      · intro W hW; (try dsimp only at hW); go_simp <;> with_reducible rfl
      simp only [Act.put, List.setIfInBounds_toArray, List.set_cons_zero, List.set_cons_succ]
      refine hTake (i := 10) (v := ?_) rfl (by kernel_rfl) (by kernel_rfl) (by kernel_rfl) (by rfl) ?_ hH ?_
      rotate_left
      · intro W hW; (try dsimp only at hW); go_simp <;> with_reducible rfl
      simp only [Act.put, List.setIfInBounds_toArray, List.set_cons_zero, List.set_cons_succ]
      refine hTake (i := 11) (v := ?_) rfl (by kernel_rfl) (by kernel_rfl) (by kernel_rfl) (by rfl) ?_ hH ?_
      rotate_left
      · intro W hW; (try dsimp only at hW); go_simp <;> with_reducible rfl
      simp only [Act.put, List.setIfInBounds_toArray, List.set_cons_zero, List.set_cons_succ]
      refine hTake (i := 12) (v := ?_) rfl (by kernel_rfl) (by kernel_rfl) (by kernel_rfl) (by rfl) ?_ hH ?_
      rotate_left
      · intro W hW; (try dsimp only at hW); go_simp <;> with_reducible rfl
      simp only [Act.put, List.setIfInBounds_toArray, List.set_cons_zero, List.set_cons_succ]
      refine hTake (i := 13) (v := ?_) rfl (by kernel_rfl) (by kernel_rfl) (by kernel_rfl) (by rfl) ?_ hH ?_
      rotate_left
      · intro W hW; (try dsimp only at hW); go_simp <;> with_reducible rfl
      simp only [Act.put, List.setIfInBounds_toArray, List.set_cons_zero, List.set_cons_succ]
      refine hTake (i := 14) (v := ?_) rfl (by kernel_rfl) (by kernel_rfl) (by kernel_rfl) (by rfl) ?_ hH ?_
      rotate_left
      · intro W hW; (try dsimp only at hW); go_simp <;> with_reducible rfl
      simp only [Act.put, List.setIfInBounds_toArray, List.set_cons_zero, List.set_cons_succ]
      refine hTake (i := 15) (v := ?_) rfl (by kernel_rfl) (by kernel_rfl) (by kernel_rfl) (by rfl) ?_ hH ?_
      rotate_left
      · intro W hW; (try dsimp only at hW); go_simp <;> with_reducible rfl
      simp only [Act.put, List.setIfInBounds_toArray, List.set_cons_zero, List.set_cons_succ]
      refine hTake (i := 16) (v := ?_) rfl (by kernel_rfl) (by kernel_rfl) (by kernel_rfl) (by rfl) ?_ hH ?_
      rotate_left
      · intro W hW; (try dsimp only at hW); go_simp <;> with_reducible rfl
      simp only [Act.put, List.setIfInBounds_toArray, List.set_cons_zero, List.set_cons_succ]
      refine hTake (i := 17) (v := ?_) rfl (by kernel_rfl) (by kernel_rfl) (by kernel_rfl) (by rfl) ?_ hH ?_
      rotate_left
      · intro W hW; (try dsimp only at hW); go_simp <;> with_reducible rfl
      simp only [Act.put, List.setIfInBounds_toArray, List.set_cons_zero, List.set_cons_succ]
      refine hTake (i := 18) (v := ?_) rfl (by kernel_rfl) (by kernel_rfl) (by kernel_rfl) (by rfl) ?_ hH ?_
      rotate_left
      · intro W hW; (try dsimp only at hW); go_simp <;> with_reducible rfl
      simp only [Act.put, List.setIfInBounds_toArray, List.set_cons_zero, List.set_cons_succ]
      refine hTake (i := 19) (v := ?_) rfl (by kernel_rfl) (by kernel_rfl) (by kernel_rfl) (by rfl) ?_ hH ?_
      rotate_left
      · intro W hW; (try dsimp only at hW); go_simp <;> with_reducible rfl
      simp only [Act.put, List.setIfInBounds_toArray, List.set_cons_zero, List.set_cons_succ]
      refine hTake (i := 20) (v := ?_) rfl (by kernel_rfl) (by kernel_rfl) (by kernel_rfl) (by rfl) ?_ hH ?_
      rotate_left
      · intro W hW; (try dsimp only at hW); go_simp <;> with_reducible rfl
      simp only [Act.put, List.setIfInBounds_toArray, List.set_cons_zero, List.set_cons_succ]
      refine hTake (i := 21) (v := ?_) rfl (by kernel_rfl) (by kernel_rfl) (by kernel_rfl) (by rfl) ?_ hH ?_
      rotate_left
      · intro W hW; (try dsimp only at hW); go_simp <;> with_reducible rfl
      simp only [Act.put, List.setIfInBounds_toArray, List.set_cons_zero, List.set_cons_succ]
      refine hTake (i := 22) (v := ?_) rfl (by kernel_rfl) (by kernel_rfl) (by kernel_rfl) (by rfl) ?_ hH ?_
      rotate_left
      · intro W hW; (try dsimp only at hW); go_simp <;> with_reducible rfl
      simp only [Act.put, List.setIfInBounds_toArray, List.set_cons_zero, List.set_cons_succ]
      refine hTake (i := 23) (v := ?_) rfl (by kernel_rfl) (by kernel_rfl) (by kernel_rfl) (by rfl) ?_ hH ?_
      rotate_left
      · intro W hW; (try dsimp only at hW); go_simp <;> with_reducible rfl
      simp only [Act.put, List.setIfInBounds_toArray, List.set_cons_zero, List.set_cons_succ]
      refine hTake (i := 24) (v := ?_) rfl (by kernel_rfl) (by kernel_rfl) (by kernel_rfl) (by rfl) ?_ hH ?_
      rotate_left
      · intro W hW; (try dsimp only at hW); go_simp <;> with_reducible rfl
      simp only [Act.put, List.setIfInBounds_toArray, List.set_cons_zero, List.set_cons_succ]
      refine hTake (i := 25) (v := ?_) rfl (by kernel_rfl) (by kernel_rfl) (by kernel_rfl) (by rfl) ?_ hH ?_
      rotate_left
      · intro W hW; (try dsimp only at hW); go_simp <;> with_reducible rfl
      simp only [Act.put, List.setIfInBounds_toArray, List.set_cons_zero, List.set_cons_succ]
      refine hTake (i := 26) (v := ?_) rfl (by kernel_rfl) (by kernel_rfl) (by kernel_rfl) (by rfl) ?_ hH ?_
      rotate_left
      · intro W hW; (try dsimp only at hW); go_simp <;> with_reducible rfl
      simp only [Act.put, List.setIfInBounds_toArray, List.set_cons_zero, List.set_cons_succ]
      refine wpAnyH_ready (rs := [27]) (by kernel_rfl) (by simp) ?_
      refine AllReadyH.cons rfl (fun K hK => ?_) AllReadyH.nil
      go_simp
      refine (SR _ (o1.below hH.2.2.2.2.2)).mono ?_
      rintro e w7 ⟨a7, c7, rfl, o7, b7⟩
      have hfd7 := fun W => (fieldRs 0 a7 k c7 W).2
      go_wp2_with fail
      refine hK.out _ _ ?_ (fun hH => ?_)
      · exact ⟨keep_cell b7 hH.1, keep_cell b7 hH.2.1, keep_cell b7 hH.2.2.1, keep_cell b7 hH.2.2.2.1, keep_cell b7 hH.2.2.2.2.1, hH.2.2.2.2.2.trans (b7.mono hH.2.2.2.2.2.size)⟩
      clear hK K
      refine hTake (i := 28) (v := ?_) rfl (by kernel_rfl) (by kernel_rfl) (by kernel_rfl) (by rfl) ?_ hH ?_
      rotate_left
      · intro W hW; (try dsimp only at hW); go_simp <;> with_reducible rfl
      simp only [Act.put, List.setIfInBounds_toArray, List.set_cons_zero, List.set_cons_succ]
      refine wpAnyH_ready (rs := [29]) (by kernel_rfl) (by simp) ?_
      refine AllReadyH.cons rfl (fun K hK => ?_) AllReadyH.nil
      go_simp
      refine (LA _ _ _ (owns_cells (owns_below o3 hH.2.2.2.2.2)) (owns_cells o7)).mono ?_
      rintro e w8 ⟨rfl, b8⟩
      go_wp2_with fail
      refine hK.out _ _ ?_ (fun hH => ?_)
      · exact ⟨keep_cell b8 hH.1, keep_cell b8 hH.2.1, keep_cell b8 hH.2.2.1, keep_cell b8 hH.2.2.2.1, keep_cell b8 hH.2.2.2.2.1, hH.2.2.2.2.2.trans (b8.mono hH.2.2.2.2.2.size)⟩
      clear hK K
      refine hTake (i := 30) (v := ?_) rfl (by kernel_rfl) (by kernel_rfl) (by kernel_rfl) (by rfl) ?_ hH ?_
      rotate_left
      · intro W hW; (try dsimp only at hW); go_simp <;> with_reducible rfl
      simp only [Act.put, List.setIfInBounds_toArray, List.set_cons_zero, List.set_cons_succ]
      refine hTake (i := 31) (v := ?_) rfl (by kernel_rfl) (by kernel_rfl) (by kernel_rfl) (by rfl) ?_ hH ?_
      rotate_left
      · intro W hW; (try dsimp only at hW); go_simp <;> with_reducible rfl
      simp only [Act.put, List.setIfInBounds_toArray, List.set_cons_zero, List.set_cons_succ]
      refine wpAnyH_done (by kernel_rfl) ?_ _
      refine NoPanic.normal ?_
      have b9 := hH.2.2.2.2.2
      clear hH
      go_wp2
      go_ret
      exact ⟨rfl, bE.trans (b9.mono bE.size)⟩
end Go.Proofs.Ytjagobcogkdfhaa
