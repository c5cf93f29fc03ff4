
/- PackLeaves of the model. -/
import Derived.Test.YtofhkncdjjlllaaPakA
namespace Go.Proofs.Ytofhkncdjjlllaa
open Go.RowKit

theorem min_any (x y : Int) (w : World) : Calls Try.prog 123 #[.int .i64 x, .int .i64 y] w fun e w' => e = .returned (.int .i64 (min x y)) ∧ w' = w := by
  by_cases h : x < y
  · rw [show min x y = x by omega]
    go_enter Try.func123, Try.ntmps123
    go_wp2
    go_ret
    exact ⟨rfl, rfl⟩
  · rw [show min x y = y by omega]
    go_enter Try.func123, Try.ntmps123
    go_wp2
    go_ret
    exact ⟨rfl, rfl⟩

set_option maxHeartbeats 2000000 in
theorem l4Pack_any (a : Option Addr) (n cap : Nat) (ls : List (List Ch.Row)) (w : World) (h : LvAt w a n ls) (hs : Ch.lvSize ls ≤ 1048576) (hg : ∀ k, k < n → (ls.getD k []).length ≠ 0) :
    Calls Try.prog 80 #[.slice a n cap] w fun e w' => ∃ a' m c', e = .returned (.slice a' m c') ∧ OwnLv w' w.heap.size (.slice a' m c') m (Ch.pack ls.flatten) ∧ Below w.heap.size w w' := by
  have HL := h.len
  have o0 := empty_leaves w w.heap.size (Nat.le_refl _)
  have O0 : OwnLv (w.alloc (.cells #[] 59)) w.heap.size (.slice (some ⟨w.heap.size, 0, none⟩) 0 0) 0 [] := ⟨rfl, [], o0, fun i hi => absurd hi (by omega), fun i j x y g _ hx => by simp at hx, fun i x g hx => by simp at hx⟩
  clear o0
  have b0 : Below w.heap.size w (w.alloc (.cells #[] 59)) := (Below.refl _ _).alloc (Nat.le_refl _) _
  have hfl := Ch.flat_small hs ls.length
  rw [List.take_length] at hfl
  have RI := fun W hW => specRows_m a n cap ls W hW hs hg ls.flatten.length rfl
  generalize ls.flatten = F at *
  generalize hm : F.length = m at *
  obtain ⟨P, hP⟩ : ∃ P, P = (m + 3) / 4 := ⟨_, rfl⟩
  have HP := hid (Ch.pack_is F P (by rw [hm]; exact hP))
  have hPm : P ≤ 1048576 := by omega
  have hPd : ∀ k, k < P → k * 4 < m := by intro k hk; omega
  have hPe : P * 4 < m + 4 ∧ m ≤ P * 4 := by omega
  clear hP hg
  go_enter Try.func80, Try.ntmps80
  go_wp2_with fail
  refine (RI _ (h.below b0)).mono ?_
  rintro e w2 ⟨a2, c2, rfl, own, b2⟩
  have O2 := O0.below b2
  have bE := b0.trans (b2.mono b0.size)
  have hlo : ∀ g, (Value.slice a2 m c2).ownBlock = some g → w.heap.size < g := by intro g hg; have := owns_lt own g hg; simp at this; omega
  have hhi : ∀ g, (Value.slice a2 m c2).ownBlock = some g → g < w2.heap.size := by intro g hg; exact (owns_lt own g hg).2
  have hz2 := b2.size
  simp at hz2
  clear O0 b2 b0 RI
  go_wp2
  go_loopw [3, 5] (fun q i wr => ∃ (k : Nat) (a' : Option Addr) (c' : Nat), k ≤ P ∧ i = .int .i64 ((k : Int) * 4) ∧ q = .slice a' k c' ∧ OwnLv wr w.heap.size (.slice a' k c') k ((List.range k).map (Ch.pieceOf F)) ∧ (∀ g, (Value.slice a' k c').ownBlock = some g → g = w.heap.size ∨ w2.heap.size ≤ g) ∧ wr.ownsRow (w.heap.size + 1) 42 3 (.slice a2 m c2) m (rcells F) ∧ w2.heap.size ≤ wr.heap.size ∧ Below w.heap.size w wr) (fun _ i _ => P - (intOf i / 4).toNat)
  case atStart => exact ⟨0, _, _, Nat.zero_le _, rfl, rfl, O2, fun g hg => by simp [Value.ownBlock] at hg; omega, by simpa using own, Nat.le_refl _, bE⟩
  case round =>
    clear O2 own
    obtain ⟨k, a', c', hk, rfl, rfl, oL, hat, own, hsz, hB⟩ := hrel
    by_cases hlt : k < P
    · have hkm := hPd k hlt
      have hown := own
      rcases own.2 with ⟨_, h00⟩ | ⟨g, cp, cur, hv, _⟩
      · omega
      simp only [Value.slice.injEq, true_and] at hv
      obtain ⟨rfl, rfl⟩ := hv
      have hcap := owns_capN hown
      have hcells := owns_cells hown
      have hlo := hlo g rfl
      have hhi := hhi g rfl
      obtain ⟨t, ht⟩ : ∃ t : Nat, t = min (k * 4 + 4) m := ⟨_, rfl⟩
      have hmin : min (m : Int) ((k : Int) * 4 + 4) = (t : Int) := by omega
      have HPi := hid (Ch.piece_is F k t (by rw [hm]; exact ht))
      have HSn := hid (Ch.pieces_snoc F k)
      have ht1 : k * 4 < t := by omega
      have ht2 : t ≤ m := by omega
      clear ht
      obtain ⟨vs, hV⟩ := oL.told
      have hoV := hV.2.1
      have hsum : k + 1 ≤ 2097152 := by omega
      have hk4 : ((k * 4 : Nat) : Int) = (k : Int) * 4 := by omega
      have h1 : t ≤ c2 := by omega
      have h2 : k * 4 ≤ t := by omega
      have h3 : ¬ c2 = k * 4 := by omega
      have h4 : (k : Int) * 4 < (m : Int) := by omega
      have h5 : (k : Int) * 4 ≤ (t : Int) := by omega
      have h6 : ((k : Int) * 4).toNat = k * 4 := by omega
      have hcR := hcells.cutR (k := k * 4) (by omega)
      rw [Nat.zero_add] at hcR
      have hcc := hcR.cutL (k := t - k * 4) (by omega)
      rw [HPi.out] at hcc
      generalize Ch.pieceOf F k = pc at *
      have MI := fun W => min_any (m : Int) ((k : Int) * 4 + 4) W
      rw [hmin] at MI
      go_wp2_with fail
      refine (MI _).mono ?_
      rintro e w4 ⟨rfl, rfl⟩
      clear MI hmin
      have e0 := empty_rows w4 w4.heap.size (Nat.le_refl _)
      have bR : Below w4.heap.size w4 (w4.alloc (.cells #[] 42)) := (Below.refl _ _).alloc (Nat.le_refl _) _
      have hcc4 := hcc.below bR
      have hsd : 0 + (t - k * 4) ≤ 2097152 := by omega
      have hfo : ∀ o, Below w4.heap.size w4 (w4.alloc o) := fun o => (Below.refl _ _).alloc (Nat.le_refl _) _
      go_wp2_with (first | (at_builtin; refine wpList_appRs (.tmp 22) (.tmp 26) w4.heap.size (.slice (some ⟨w4.heap.size, 0, none⟩) 0 0) 0 [] (t - k * 4) pc hsd ?_ ?_ ?_ ?_ ?_ ?_ ?_; exact rfl; exact rfl; exact rfl; exact ⟨_, _, rfl, hcc4⟩; exact e0; (focus (simp; done)); intro a5 c5 w5 own5 b5; have b5' := bR.trans b5; have bA : ∀ o, Below w5.heap.size w5 (w5.alloc o) := (fun o => (Below.refl _ _).alloc (Nat.le_refl _) _); rw [Nat.zero_add, List.nil_append] at own5; rw [Nat.zero_add]; have hz5 := b5'.size) | (at_builtin; go_must (refine wpList_appLv (.tmp 21) (.tmp 29) w.heap.size (.slice a' k c') k vs 1 [.slice a5 (t - k * 4) c5] hsum (by simp [Value.oneCell']) ?_ ?_ ?_ ?_ ?_ ?_ ?_ (by omega); exact rfl; exact rfl; exact rfl; exact ⟨_, _, rfl, one_leaf rfl⟩; exact owns_below (owns_below hoV b5') (bA _); (focus (have := hB.size; simp; omega)); intro a6 c6 w6 own6 gr6 at6)))
      have HLn := own_rows_len own5
      have hB5 := hB.trans (b5'.mono hB.size)
      have hz6 := gr6.size
      simp at hz6
      go_roundw
      case rel =>
        refine ⟨k + 1, a6, c6, by omega, by go_num, rfl, ?_, ?_, ?_, by omega, ?_⟩
        · rw [HSn.out]
          refine OwnLv.snoc hV b5' ?_ hB.size rfl own6 gr6 at6
          have := HLn.out
          rw [← this]
          exact own5
        · intro q hq
          rcases at6 q hq with h7 | h7
          · exact hat q h7
          · simp at h7; right; omega
        · refine owns_grown (owns_below (owns_below hown b5') (bA _)) gr6 fun q hq e => ?_
          simp [Value.ownBlock] at hq
          subst hq
          have := hat _ e
          omega
        · refine (hB5.alloc hB5.size _).grown gr6 (by have := hB5.size; simp; omega) ?_
          intro j hj
          exact (owns_lt hoV j hj).1
      case measure => simp [intOf]; omega
    · obtain rfl : k = P := by omega
      have h4 : ¬ (k : Int) * 4 < (m : Int) := by omega
      go_wp2
      go_ret
      rw [HP.out] at oL
      exact ⟨a', k, c', rfl, oL, hB⟩

set_option linter.unusedSimpArgs false in
theorem specPackLv_any (a : Option Addr) (n cap : Nat) (ls : List (List Ch.Row)) (w : World) (h : LvAt w a n ls) (hs : Ch.lvSize ls ≤ 1048576) :
    Calls Try.prog 29 #[.slice a n cap] w fun e w' => ∃ a' m c', e = .returned (.agg #[.int .i64 (Ch.packR ls).1, .slice a' m c']) ∧ OwnLv w' w.heap.size (.slice a' m c') m (Ch.packR ls).2 ∧ Below w.heap.size w w' := by
  have HL := h.len
  have b0 : Below w.heap.size w (w.alloc (.cells #[.int .i64 0, .slice none 0 0] 46)) := (Below.refl _ _).alloc (Nat.le_refl _) _
  cases hc : (Ch.leavesFault ls != 0)
  · have h0 : Ch.leavesFault ls = 0 := by simpa using hc
    rw [Ch.packR_ok h0]
    have hg := Ch.good_at HL h0
    have FI := specLv_any a n cap ls
    rw [h0] at FI
    go_enter Try.func29, Try.ntmps29
    go_wp2_with fail
    refine (FI _ (h.below b0) hs).mono ?_
    rintro e w1 ⟨rfl, b1⟩
    obtain ⟨x0, x1⟩ := box2 b1
    have f0 := box_froz b1 0
    have f1 := box_froz b1 1
    have hz := lt_of_cell x0
    have bE := b0.trans (b1.mono b0.size)
    go_wp2_with fail
    refine (l4Pack_any a n cap ls _ (h.below bE) hs hg).mono ?_
    rintro e w2 ⟨a', m, c', rfl, oL, b2⟩
    replace x0 := keep_cell b2 x0
    replace x1 := keep_cell b2 x1
    replace f0 := ((bcell b2).2 w.heap.size 0 hz).trans f0
    replace f1 := ((bcell b2).2 w.heap.size 1 hz).trans f1
    have bE2 := bE.trans (b2.mono bE.size)
    go_wp2
    refine bodyPost_ret (v := .agg #[.int .i64 0, .slice a' m c']) (by simp [results, Try.results29, go_sem, x0, x1]) rfl ⟨a', m, c', rfl, ?_, ?_⟩
    · exact ((oL.box hz _).box hz _).base (by omega)
    · exact (bE2.setCell (p := ⟨w.heap.size, 0, none⟩) (Nat.le_refl _) _).setCell (p := ⟨w.heap.size, 1, none⟩) (Nat.le_refl _) _
  · rw [Ch.packR_no hc]
    go_enter Try.func29, Try.ntmps29
    go_wp2_with fail
    refine (specLv_any a n cap ls _ (h.below b0) hs).mono ?_
    rintro e w1 ⟨rfl, b1⟩
    obtain ⟨x0, x1⟩ := box2 b1
    have f0 := box_froz b1 0
    have f1 := box_froz b1 1
    have hz := lt_of_cell x0
    have bE := b0.trans (b1.mono b0.size)
    generalize hq : Ch.leavesFault ls = c at *
    go_wp2
    exact bodyPost_ret (v := .agg #[.int .i64 c, .slice none 0 0]) (by simp [results, Try.results29, go_sem, x0, x1]) rfl ⟨none, 0, 0, by rw [hq], OwnLv.nil _ _, (bE.setCell (p := ⟨w.heap.size, 0, none⟩) (Nat.le_refl _) _).setCell (p := ⟨w.heap.size, 1, none⟩) (Nat.le_refl _) _⟩
end Go.Proofs.Ytofhkncdjjlllaa
