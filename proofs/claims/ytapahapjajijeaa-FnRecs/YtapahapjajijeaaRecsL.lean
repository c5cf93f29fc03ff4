
/- The law FnRecs. -/
import Derived.Test.YtapahapjajijeaaRecsA
import Derived.Deep.DeepCutAuto
namespace Go.Proofs.Ytapahapjajijeaa
open Go.RowKit

theorem cells_tk {w : World} {a : Option Addr} {n k : Nat} {zs : List Int} (h : CellsAt w a n (bts zs)) (hk : k ≤ n) : CellsAt w a k (bts (zs.take k)) := by
  have hl := h.len.out
  refine ⟨by simp [bts]; omega, fun hp => ?_⟩
  obtain ⟨b, off, ha, hc⟩ := h.2 (by omega)
  refine ⟨b, off, ha, fun i hi => ?_⟩
  rw [hc i (by omega)]
  simp [bts, hi]
theorem isB_cons {z : Int} {zs : List Int} (h0 : 0 ≤ z) (h1 : z ≤ 255) (h : IsB zs) : IsB (z :: zs) := by
  intro i
  cases i with
  | zero => exact ⟨h0, h1⟩
  | succ i => simpa using h i
theorem isB_bytes {zs : List Int} (h : Ch.AllB zs) : IsB zs := isB_of h

set_option linter.unusedSimpArgs false in
set_option maxHeartbeats 8000000 in
theorem lawRecs_any (a : Option Addr) (n cap : Nat) (zs : List Int) (w : World) (h : CellsAt w a n (bts zs)) (hb : IsB zs) :
    Calls Try.prog 3 #[.slice a n cap] w fun e w' => e = .returned (.bool true) ∧ Below w.heap.size w w' := by
  by_cases hbig : 1048576 < n
  · have hd : decide ((1048576 : Int) < (n : Int)) = true := by simp; omega
    go_enter Try.func3, Try.ntmps3
    go_wp2_with fail
    refine (big_any a n cap _).mono ?_
    rintro e w0 ⟨rfl, hw0⟩
    replace hw0 := hw0.symm
    subst hw0
    rw [hd]
    go_wp2
    go_ret
    exact ⟨rfl, Below.refl _ _⟩
  have hn : n ≤ 1048576 := by omega
  have hd : decide ((1048576 : Int) < (n : Int)) = false := by simp; omega
  clear hbig
  have oA := owns_below (empty_own w w.heap.size (Nat.le_refl _)) ((Below.refl _ _).alloc (Nat.le_refl _) (.cells #[] 26))
  have oL : ((w.alloc (.cells #[] 5)).alloc (.cells #[] 26)).ownsRow w.heap.size 26 7 (.slice (some ⟨w.heap.size + 1, 0, none⟩) 0 0) 0 [] := by
    have := World.ownsRow_lit (base := w.heap.size) (e := 26) (size := 7) (w.alloc (.cells #[] 5)) #[] 0 (by simp) (by unfold maxLen; omega) rfl
    simpa using this
  go_enter Try.func3, Try.ntmps3
  go_wp2_with fail
  refine (big_any a n cap _).mono ?_
  rintro e w0 ⟨rfl, hw0⟩
  replace hw0 := hw0.symm
  subst hw0
  rw [hd]
  go_wp2
  go_loopw [3, 4, 5] (fun qa ql i wr => ∃ (k g1 m1 c1 g2 m2 c2 : Nat) (rs : List Ch.Rec), k ≤ 4 ∧ i = .int .u8 k ∧ qa = .slice (some ⟨g1, 0, none⟩) m1 c1 ∧ ql = .slice (some ⟨g2, 0, none⟩) m2 c2 ∧ wr.ownsRow w.heap.size 5 1 (.slice (some ⟨g1, 0, none⟩) m1 c1) m1 (bts (Ch.packs rs)) ∧ wr.ownsRow w.heap.size 26 7 (.slice (some ⟨g2, 0, none⟩) m2 c2) m2 (rc7 rs) ∧ g1 ≠ g2 ∧ Hid (∀ r ∈ rs, r.fault = 0) ∧ m1 ≤ 11 * k ∧ m2 ≤ k ∧ Below w.heap.size w wr) (fun _ _ i _ => 4 - (intOf i).toNat)
  case atStart => exact ⟨0, _, 0, 0, _, 0, 0, [], by omega, rfl, rfl, rfl, by simpa [Ch.packs, bts] using oA, by simpa [rc7] using oL, by simp, (fun r hr => by simp at hr), by omega, by omega, Below.alloc (Below.alloc (Below.refl _ _) (Nat.le_refl _) _) (by simp) _⟩
  case round =>
    clear oA oL
    obtain ⟨k, g1, m1, c1, g2, m2, c2, rs, hk, rfl, rfl, rfl, o1, o2, hne, HF, hm1, hm2, hB⟩ := hrel
    have L1 := owns_bounds o1
    have L2 := owns_bounds o2
    by_cases hlt : k < 4
    · have ob : (wr.alloc (.cells #[.int .u8 k] 5)).ownsRow wr.heap.size 5 1 (.slice (some ⟨wr.heap.size, 0, none⟩) 1 1) 1 [.int .u8 k] := World.ownsRow_lit wr #[.int .u8 k] 1 (Nat.le_refl _) (by unfold maxLen; omega) rfl
      have bA : ∀ o, Below wr.heap.size wr (wr.alloc o) := fun o => (Below.refl _ _).alloc (Nat.le_refl _) _
      have hsum : 1 + n ≤ 1099511627776 := by omega
      have hc1 : CellsAt (wr.alloc (.cells #[.int .u8 k] 5)) a n (bts zs) := h.below (hB.alloc hB.size _)
      go_wp2_with (at_builtin; go_must (refine wpList_appO (.tmp 21) (.tmp 22) wr.heap.size wr.heap.size 1 1 [.int .u8 k] a n cap zs hsum ?_ ?_ ?_ ?_ ?_ ?_ ?_ ?_; exact rfl; exact rfl; exact rfl; exact rfl; exact hc1; exact ob; (focus (simp; done)); intro a1 c1' w1 own1 b1))
      have hc2 : CellsAt w1 a1 (1 + n) (bts ((k : Int) :: zs)) := owns_bytes own1
      have b1' := (bA (.cells #[.int .u8 k] 5)).trans b1
      clear hc1 ob own1
      refine (drawRec_any a1 (1 + n) c1' ((k : Int) :: zs) _ hc2 (isB_cons (by omega) (by omega) hb) (by omega)).mono ?_
      rintro e w2 ⟨⟨kd, tx, ky, hd', ol, hs, nw⟩, rfl, b2⟩
      simp only [Ag]
      have b2' := b1'.trans (b2.mono b1'.size)
      clear b1 b2 b1' hc2
      generalize hd' = hd at *
      go_wp2_with fail
      refine (implPackRec_any kd tx ky hd ol hs nw _).mono ?_
      rintro e w3 ⟨a3, m3, c3, rfl, hm3, own3, b3⟩
      have x0 := box_cell b3 0
      have x1 := box_cell b3 1
      have x2 := box_cell b3 2
      have x3 := box_cell b3 3
      have x4 := box_cell b3 4
      have x5 := box_cell b3 5
      have x6 := box_cell b3 6
      simp at x0 x1 x2 x3 x4 x5 x6
      have b3w := below_box b3
      have b3' := b2'.trans (b3w.mono b2'.size)
      have z2 := b2'.size
      have z3 := b3.size
      simp at z3
      have p1 := owns_below o1 b3'
      have p2 := owns_below o2 b3'
      clear b3 b3w
      generalize hf : Ch.Rec.fault ⟨kd, tx, ky, hd, ol, hs, nw⟩ = fc at *
      have bal : Below w3.heap.size w3 (w3.alloc (.cells #[.int .i64 fc, .slice a3 m3 c3] 29)) := (Below.refl _ _).alloc (Nat.le_refl _) _
      by_cases hf0 : fc = 0
      · subst hf0
        have hfb : ((0 : Int) != 0) = false := by simp
        have hres : Ch.Rec.res ⟨kd, tx, ky, hd, ol, hs, nw⟩ = Ch.Rec.bytes ⟨kd, tx, ky, hd, ol, hs, nw⟩ := by unfold Ch.Rec.res; rw [if_pos hf]
        rw [hres] at own3
        have hbl : (Ch.Rec.bytes ⟨kd, tx, ky, hd, ol, hs, nw⟩).length = m3 := by have := own3.1; simp [bts] at this; omega
        have hl5 := (Ch.Rec.len_bd ⟨kd, tx, ky, hd, ol, hs, nw⟩).1
        have hb5 : 0 < m3 := by rw [← hbl, Ch.Rec.bytes_len]; omega
        have HBS := hid (Ch.packs_snoc rs ⟨kd, tx, ky, hd, ol, hs, nw⟩)
        have HFN : Hid (∀ r ∈ rs ++ [(⟨kd, tx, ky, hd, ol, hs, nw⟩ : Ch.Rec)], r.fault = 0) := by
          intro r hr
          rcases List.mem_append.1 hr with hr | hr
          · exact HF.out r hr
          · simp at hr; rw [hr]; exact hf
        rcases own3.2 with ⟨_, h00⟩ | ⟨g3, cp3, cur3, hv3, _⟩
        · omega
        simp only [Value.slice.injEq, true_and] at hv3
        obtain ⟨rfl, rfl⟩ := hv3
        have Lg3 := owns_bounds own3
        clear hres hbl hl5
        generalize Ch.Rec.bytes ⟨kd, tx, ky, hd, ol, hs, nw⟩ = bs at *
        have hs1 : m1 + m3 ≤ 1099511627776 := by omega
        have p1a := owns_below p1 bal
        have p2a := owns_below p2 bal
        have cs3 := (owns_bytes own3).below bal
        have hwr : w.heap.size ≤ (w3.alloc (.cells #[.int .i64 0, .slice (some ⟨g3, 0, none⟩) m3 c3] 29)).heap.size := by have := hB.size; simp; omega
        go_upto_region 14 with (at_builtin; go_must (refine wpList_appB (.tmp 42) (.tmp 44) w.heap.size g1 m1 c1 (bts (Ch.packs rs)) ⟨g3, 0, none⟩ m3 c3 bs hs1 hb5 ?_ ?_ ?_ ?_ ?_ ?_ ?_ ?_; exact rfl; exact rfl; exact rfl; exact rfl; exact cs3; exact p1a; exact hwr; intro g4 c4 w4 own4 gr4 at4))
        have y : ∀ (i : Nat) (v : Value), w3.cell? ⟨w2.heap.size, i, none⟩ = some v → w4.cell? ⟨w2.heap.size, i, none⟩ = some v := fun i v hv => grown_cell gr4 (keep_cell bal hv) (by simp; omega)
        replace x0 := y _ _ x0
        replace x1 := y _ _ x1
        replace x2 := y _ _ x2
        replace x3 := y _ _ x3
        replace x4 := y _ _ x4
        replace x5 := y _ _ x5
        replace x6 := y _ _ x6
        have q2 := owns_grown p2a gr4 (fun g hg => by simp [Value.ownBlock] at hg; subst hg; simpa using hne)
        have z4 := gr4.size
        simp at z4
        have hB4 := ((hB.trans (b3'.mono hB.size)).alloc (by have := hB.size; omega) _).grown gr4 hwr (fun k hk => by simp at hk; omega)
        have Lq2 := owns_bounds q2
        have Lo4 := owns_bounds own4
        have h24 : g2 ≠ g4 := by
          rcases at4 with h1 | h1
          · rw [h1]; exact fun e => hne e.symm
          · rw [h1]; simp; omega
        rw [← bts_append, ← HBS.out] at own4
        have hn2 : m2 ≤ 1048576 := by omega
        have bb4 : ∀ o, Below w4.heap.size w4 (w4.alloc o) := fun o => (Below.refl _ _).alloc (Nat.le_refl _) _
        have q2a := owns_below q2 (bb4 (.cells #[.int .i64 kd, .int .i64 tx, .int .i64 ky, .bool hd, .int .i64 ol, .bool hs, .int .i64 nw] 26))
        have q4a := owns_below own4 (bb4 (.cells #[.int .i64 kd, .int .i64 tx, .int .i64 ky, .bool hd, .int .i64 ol, .bool hs, .int .i64 nw] 26))
        clear y p1a p2a p1 p2 cs3 q2 own4 gr4 own3
        go_wp2_with (at_builtin; go_must (refine wpList_appC (.tmp 46) (.tmp 48) w.heap.size g2 m2 c2 rs ⟨kd, tx, ky, hd, ol, hs, nw⟩ hn2 ?_ ?_ ?_ ?_ ?_ ?_ ?_; exact rfl; exact rfl; exact rfl; exact ⟨_, _, 26, rfl, heap_new' rfl⟩; exact q2a; (focus (have := hB4.size; simp; omega)); intro g5 c5 w5 own5 gr5 at5))
        have o4 := owns_grown q4a gr5 (fun g hg => by simp [Value.ownBlock] at hg; subst hg; simpa using h24)
        go_roundw
        case rel =>
          refine ⟨k + 1, g4, m1 + m3, c4, g5, m2 + 1, c5, rs ++ [⟨kd, tx, ky, hd, ol, hs, nw⟩], by omega, by go_num, rfl, rfl, o4, own5, ?_, HFN, by omega, by omega, ?_⟩
          · rcases at5 with h1 | h1
            · rw [h1]; exact fun e => h24 e.symm
            · rw [h1]; simp; omega
          · exact (hB4.alloc hB4.size _).grown gr5 (by have := hB4.size; simp; omega) (fun k hk => by simp at hk; omega)
        case measure => simp [intOf]; omega
      · have hfb : (fc != 0) = true := by simpa using hf0
        have hff : (fc != fc) = false := by simp
        go_upto_region 11 with fail
        have bw := b3'.trans (bal.mono b3'.size)
        have y0 : (w3.alloc (.cells #[.int .i64 fc, .slice a3 m3 c3] 29)).cell? ⟨w3.heap.size, 0, none⟩ = some (.int .i64 fc) := by simp [go_sem]
        have x0 := keep_cell bal x0
        have x1 := keep_cell bal x1
        have x2 := keep_cell bal x2
        have x3 := keep_cell bal x3
        have x4 := keep_cell bal x4
        have x5 := keep_cell bal x5
        have x6 := keep_cell bal x6
        generalize w3.alloc (.cells #[.int .i64 fc, .slice a3 m3 c3] 29) = w4 at *
        refine wp_region_noPanic ?_
        refine wp_region_held_drew (S := fun W' => W'.cell? ⟨w2.heap.size, 0, none⟩ = some (.int .i64 kd) ∧ W'.cell? ⟨w2.heap.size, 1, none⟩ = some (.int .i64 tx) ∧ W'.cell? ⟨w2.heap.size, 2, none⟩ = some (.int .i64 ky) ∧ W'.cell? ⟨w2.heap.size, 3, none⟩ = some (.bool hd) ∧ W'.cell? ⟨w2.heap.size, 4, none⟩ = some (.int .i64 ol) ∧ W'.cell? ⟨w2.heap.size, 5, none⟩ = some (.bool hs) ∧ W'.cell? ⟨w2.heap.size, 6, none⟩ = some (.int .i64 nw) ∧ W'.cell? ⟨w3.heap.size, 0, none⟩ = some (.int .i64 fc) ∧ Below wr.heap.size wr W') (by kernel_rfl) (⟨x0, x1, x2, x3, x4, x5, x6, y0, bw.drew⟩) (fun hH => ?_)
        refine hTake (i := 0) (v := ?_) rfl (by kernel_rfl) (by kernel_rfl) (by kernel_rfl) (by rfl) ?_ hH ?_
        rotate_left
        · intro W hW; (try dsimp only at hW); go_simp <;> with_reducible rfl
        simp only [Act.put, List.setIfInBounds_toArray, List.set_cons_zero, List.set_cons_succ]
        refine hTake (i := 2) (v := ?_) rfl (by kernel_rfl) (by kernel_rfl) (by kernel_rfl) (by rfl) ?_ hH ?_
        rotate_left
        · intro W hW; (try dsimp only at hW); go_simp <;> with_reducible rfl
        simp only [Act.put, List.setIfInBounds_toArray, List.set_cons_zero, List.set_cons_succ]
        refine hTake (i := 3) (v := ?_) rfl (by kernel_rfl) (by kernel_rfl) (by kernel_rfl) (by rfl) ?_ hH ?_
        rotate_left
        · intro W hW; (try dsimp only at hW); go_simp <;> with_reducible rfl
        simp only [Act.put, List.setIfInBounds_toArray, List.set_cons_zero, List.set_cons_succ]
        refine wpAnyH_ready (rs := [1]) (by kernel_rfl) (by simp) ?_
        refine AllReadyH.cons rfl (fun K hK => ?_) AllReadyH.nil
        go_simp
        refine (implRec_any kd tx ky hd ol hs nw _).mono ?_
        rw [hf]
        rintro e w5 ⟨rfl, b5⟩
        go_wp2_with fail
        refine hK.out _ _ ?_ (fun hH => ?_)
        · exact ⟨keep_cell b5 hH.1, keep_cell b5 hH.2.1, keep_cell b5 hH.2.2.1, keep_cell b5 hH.2.2.2.1, keep_cell b5 hH.2.2.2.2.1, keep_cell b5 hH.2.2.2.2.2.1, keep_cell b5 hH.2.2.2.2.2.2.1, keep_cell b5 hH.2.2.2.2.2.2.2.1, hH.2.2.2.2.2.2.2.2.trans (b5.mono hH.2.2.2.2.2.2.2.2.size)⟩
        clear hK K
        refine hTake (i := 4) (v := ?_) rfl (by kernel_rfl) (by kernel_rfl) (by kernel_rfl) (by rfl) ?_ hH ?_
        rotate_left
        · intro W hW; (try dsimp only at hW); go_simp <;> with_reducible rfl
        simp only [Act.put, List.setIfInBounds_toArray, List.set_cons_zero, List.set_cons_succ]
        refine hTake (i := 5) (v := ?_) rfl (by kernel_rfl) (by kernel_rfl) (by kernel_rfl) (by rfl) ?_ hH ?_
        rotate_left
        · intro W hW; (try dsimp only at hW); go_simp <;> with_reducible rfl
        simp only [Act.put, List.setIfInBounds_toArray, List.set_cons_zero, List.set_cons_succ]
        refine hTake (i := 6) (v := ?_) rfl (by kernel_rfl) (by kernel_rfl) (by kernel_rfl) (by rfl) ?_ hH ?_
        rotate_left
        · intro W hW; (try dsimp only at hW); go_simp <;> with_reducible rfl
        simp only [Act.put, List.setIfInBounds_toArray, List.set_cons_zero, List.set_cons_succ]
        refine hTake (i := 8) (v := ?_) rfl (by kernel_rfl) (by kernel_rfl) (by kernel_rfl) (by rfl) ?_ hH ?_
        rotate_left
        · intro W hW; (try dsimp only at hW); go_simp <;> with_reducible rfl
        simp only [Act.put, List.setIfInBounds_toArray, List.set_cons_zero, List.set_cons_succ]
        refine hTake (i := 9) (v := ?_) rfl (by kernel_rfl) (by kernel_rfl) (by kernel_rfl) (by rfl) ?_ hH ?_
        rotate_left
        · intro W hW; (try dsimp only at hW); go_simp <;> with_reducible rfl
        simp only [Act.put, List.setIfInBounds_toArray, List.set_cons_zero, List.set_cons_succ]
        refine wpAnyH_ready (rs := [7]) (by kernel_rfl) (by simp) ?_
        refine AllReadyH.cons rfl (fun K hK => ?_) AllReadyH.nil
        go_simp
        refine (specRec_any kd tx ky hd ol hs nw _).mono ?_
        rw [hf]
        rintro e w6 ⟨rfl, b6⟩
        go_wp2_with fail
        refine hK.out _ _ ?_ (fun hH => ?_)
        · exact ⟨keep_cell b6 hH.1, keep_cell b6 hH.2.1, keep_cell b6 hH.2.2.1, keep_cell b6 hH.2.2.2.1, keep_cell b6 hH.2.2.2.2.1, keep_cell b6 hH.2.2.2.2.2.1, keep_cell b6 hH.2.2.2.2.2.2.1, keep_cell b6 hH.2.2.2.2.2.2.2.1, hH.2.2.2.2.2.2.2.2.trans (b6.mono hH.2.2.2.2.2.2.2.2.size)⟩
        clear hK K
        refine hTake (i := 10) (v := ?_) rfl (by kernel_rfl) (by kernel_rfl) (by kernel_rfl) (by rfl) ?_ hH ?_
        rotate_left
        · intro W hW; (try dsimp only at hW); go_simp <;> with_reducible rfl
        simp only [Act.put, List.setIfInBounds_toArray, List.set_cons_zero, List.set_cons_succ]
        refine hTake (i := 11) (v := ?_) rfl (by kernel_rfl) (by kernel_rfl) (by kernel_rfl) (by rfl) ?_ hH ?_
        rotate_left
        · intro W hW; (try dsimp only at hW); go_simp <;> with_reducible rfl
        simp only [Act.put, List.setIfInBounds_toArray, List.set_cons_zero, List.set_cons_succ]
        refine wpAnyH_done (by kernel_rfl) ?_ _
        refine NoPanic.normal ?_
        have bE := hH.2.2.2.2.2.2.2.2
        clear hH
        go_wp2
        go_roundw
        case rel => exact ⟨k + 1, g1, m1, c1, g2, m2, c2, rs, by omega, by go_num, rfl, rfl, owns_below o1 bE, owns_below o2 bE, hne, HF, by omega, by omega, hB.trans (bE.mono hB.size)⟩
        case measure => simp [intOf]; omega
    · obtain rfl : k = 4 := by omega
      have hrs := Ch.reads_packs HF.out
      have hup := Ch.used_packs HF.out
      have hl1 := (owns_bytes o1).len.out
      have hl2 : m2 = rs.length := by have := o2.1; rw [rc7_len] at this; omega
      have hbp : IsB (Ch.packs rs) := isB_of (Ch.packs_bytes HF.out)
      have hcap1 := owns_capR o1
      have hcap2 := owns_capR o2
      have hrd : Ch.rd (Ch.packs rs) = (0, m1, rs) := by unfold Ch.rd; rw [if_neg (by omega), hup, hrs, ← hl1]
      have HL1 := hid hl1
      have HL2 := hid hl2
      have HRS := hid hrs
      have HRD := hid hrd
      clear hl1 hl2 hrs hup hrd
      have hNe : ((m1 + 1 : Nat) : Int) = (m1 : Int) + 1 := by omega
      have LA := lwAt_any a n cap (m1 + 1) zs
      rw [hNe] at LA
      have hwm : IntKind.i64.wrap ((m1 : Int) + 1) = (m1 : Int) + 1 := IntWalk.i64_in _ ⟨by omega, by omega⟩
      clear hNe
      go_wp2_with fail
      refine (LA _ (h.below hB) hb (by omega) (by omega) (by omega)).mono ?_
      rintro e w1 ⟨c, hc, rfl, b1⟩
      have o1' := owns_below o1 b1
      have hB1 := hB.trans (b1.mono hB.size)
      go_wp2_with fail
      refine (implRead_any (some ⟨g1, 0, none⟩) m1 c1 (Ch.packs rs) _ (owns_bytes o1') hbp (by omega) hcap1).mono ?_
      rw [HRD.out]
      rintro e w2 ⟨a2, n2, k2, rfl, _, own2, b2⟩
      simp only at own2
      have hB2 := hB1.trans (b2.mono hB1.size)
      have hl3 : n2 = m2 := by have := own2.1; rw [rc7_len] at this; have := HL2.out; omega
      subst hl3
      have hpre := Ch.reads_take (Ch.packs rs) c
      rw [HRS.out] at hpre
      have hl1' := HL1.out
      have hut := Ch.used_le ((Ch.packs rs).take c)
      have hrd2 : Ch.rd ((Ch.packs rs).take c) = (0, Ch.used ((Ch.packs rs).take c), Ch.reads ((Ch.packs rs).take c)) := by unfold Ch.rd; rw [if_neg (by simp; omega)]
      have hbt : IsB ((Ch.packs rs).take c) := isB_take hbp c
      have htl : ((Ch.packs rs).take c).length ≤ c := by simp; omega
      have hut' : Ch.used ((Ch.packs rs).take c) ≤ c := Nat.le_trans hut htl
      have CA : CellsAt (w2.alloc (.cells #[.int .i64 0, .int .i64 m1, .slice a2 n2 k2] 34)) (some ⟨g1, 0, none⟩) c (bts ((Ch.packs rs).take c)) := cells_tk ((owns_bytes (owns_below o1' b2)).below ((Below.refl _ _).alloc (Nat.le_refl _) _)) (by omega)
      have hcc : c ≤ c1 := by omega
      clear hl1' hut htl
      generalize Ch.used ((Ch.packs rs).take c) = u at *
      generalize Ch.reads ((Ch.packs rs).take c) = vs at *
      go_wp2_with fail
      refine (implRead_any (some ⟨g1, 0, none⟩) c c1 ((Ch.packs rs).take c) _ CA hbt (by omega) hcc).mono ?_
      rw [hrd2]
      rintro e w3 ⟨a3, n3, k3, rfl, _, own3, b3⟩
      simp only at own3
      have p0 := box_cell b3 0
      have p1 := box_cell b3 1
      have p2 := box_cell b3 2
      simp at p0 p1 p2
      have b3w := below_box b3
      have hB3 := hB2.trans (b3w.mono hB2.size)
      have CU := (owns_cells own2).below b3w
      have CV := owns_cells own3
      have CL := (owns_cells o2).below (b1.trans ((b2.trans (b3w.mono b2.size)).mono b1.size))
      have hn3 : n3 = vs.length := by have := own3.1; rw [rc7_len] at this; omega
      have hlv := hpre.length_le
      have hl2' := HL2.out
      have HN3 := hid hn3
      have HPV : Hid (∀ j, j < n3 → vs.getD j Ch.Rec.zero = rs.getD j Ch.Rec.zero) := by
        intro j hj
        obtain ⟨t, ht⟩ := hpre
        rw [← ht]
        simp only [List.getD]
        rw [List.getElem?_append_left (by have := HN3.out; omega)]
      have l9 := lt_of_cell p0
      have g1' : ((n2 : Int) != (n2 : Int)) = false := by simp
      have g2' : ((m1 : Int) != (m1 : Int)) = false := by simp
      have g3' : ¬ (c : Int) < (u : Int) := by omega
      have g4' : ¬ (n2 : Int) < (n3 : Int) := by omega
      have hn35 : n3 ≤ n2 := by omega
      clear hrd2 hn3 hlv hl2' LA own2 own3 o1' o1 CA hpre hbt b3 b3w b1 b2
      go_wp2
      go_loopw [11] (fun i wq => ∃ j : Nat, j ≤ n2 ∧ i = .int .i64 j ∧ wq.cell? ⟨w2.heap.size, 2, none⟩ = some (.slice a2 n2 k2) ∧ wq.cell? ⟨w3.heap.size, 2, none⟩ = some (.slice a3 n3 k3) ∧ CellsAt wq a2 (n2 * 7) (rc7 rs) ∧ CellsAt wq a3 (n3 * 7) (rc7 vs) ∧ CellsAt wq (some ⟨g2, 0, none⟩) (n2 * 7) (rc7 rs) ∧ Below w.heap.size w wq) (fun i _ => n2 - (intOf i).toNat)
      case atStart => exact ⟨0, Nat.zero_le _, rfl, keep_cell ((Below.refl _ _).alloc (Nat.le_refl _) _) p2, by simp [go_sem], CU.below ((Below.refl _ _).alloc (Nat.le_refl _) _), CV.below ((Below.refl _ _).alloc (Nat.le_refl _) _), CL.below ((Below.refl _ _).alloc (Nat.le_refl _) _), hB3.alloc hB3.size _⟩
      case round =>
        clear CU CV CL p0 p1 p2 hB3
        obtain ⟨j, hj, rfl, p9, p10, CU, CV, CL, hBq⟩ := hrel
        by_cases hjl : j < n2
        · have CU0 := CU
          have CV0 := CV
          obtain ⟨bu, ou, rfl, u0, u1, u2, u3, u4, u5, u6⟩ := CU.rec hjl
          obtain ⟨bl, oo, hbl, l0, l1, l2, l3, l4, l5, l6⟩ := CL.rec hjl
          simp only [Option.some.injEq, Addr.mk.injEq, and_true] at hbl
          obtain ⟨rfl, rfl⟩ := hbl
          simp only [Nat.zero_add] at l0 l1 l2 l3 l4 l5 l6
          have hjn : (j : Int) < (n2 : Int) := by omega
          by_cases hjv : j < n3
          · obtain ⟨bv, ov, rfl, v0, v1, v2, v3, v4, v5, v6⟩ := CV.rec hjv
            rw [HPV.out j hjv] at v0 v1 v2 v3 v4 v5 v6
            generalize rs.getD j Ch.Rec.zero = r at *
            obtain ⟨kd, tx, ky, hd, ol, hs, nw⟩ := r
            simp only at u0 u1 u2 u3 u4 u5 u6 l0 l1 l2 l3 l4 l5 l6 v0 v1 v2 v3 v4 v5 v6
            have hjv' : (j : Int) < (n3 : Int) := by omega
            have hneq := fun W => neqRec kd tx ky hd ol hs nw kd tx ky hd ol hs nw W
            simp only [beq_self_eq_true, Bool.and_self, Bool.not_true] at hneq
            go_upto_region 23 with fail
            refine wp_region_noPanic ?_
            refine wp_region_held_drew (S := fun W' => W'.cell? ⟨w2.heap.size, 2, none⟩ = some (.slice (some ⟨bu, ou, none⟩) n2 k2) ∧ W'.cell? ⟨w3.heap.size, 2, none⟩ = some (.slice (some ⟨bv, ov, none⟩) n3 k3) ∧ W'.cell? ⟨bu, ou + j * 7, none⟩ = some (.int .i64 kd) ∧ W'.cell? ⟨bu, ou + j * 7 + 1, none⟩ = some (.int .i64 tx) ∧ W'.cell? ⟨bu, ou + j * 7 + 2, none⟩ = some (.int .i64 ky) ∧ W'.cell? ⟨bu, ou + j * 7 + 3, none⟩ = some (.bool hd) ∧ W'.cell? ⟨bu, ou + j * 7 + 4, none⟩ = some (.int .i64 ol) ∧ W'.cell? ⟨bu, ou + j * 7 + 5, none⟩ = some (.bool hs) ∧ W'.cell? ⟨bu, ou + j * 7 + 6, none⟩ = some (.int .i64 nw) ∧ W'.cell? ⟨g2, j * 7, none⟩ = some (.int .i64 kd) ∧ W'.cell? ⟨g2, j * 7 + 1, none⟩ = some (.int .i64 tx) ∧ W'.cell? ⟨g2, j * 7 + 2, none⟩ = some (.int .i64 ky) ∧ W'.cell? ⟨g2, j * 7 + 3, none⟩ = some (.bool hd) ∧ W'.cell? ⟨g2, j * 7 + 4, none⟩ = some (.int .i64 ol) ∧ W'.cell? ⟨g2, j * 7 + 5, none⟩ = some (.bool hs) ∧ W'.cell? ⟨g2, j * 7 + 6, none⟩ = some (.int .i64 nw) ∧ W'.cell? ⟨bv, ov + j * 7, none⟩ = some (.int .i64 kd) ∧ W'.cell? ⟨bv, ov + j * 7 + 1, none⟩ = some (.int .i64 tx) ∧ W'.cell? ⟨bv, ov + j * 7 + 2, none⟩ = some (.int .i64 ky) ∧ W'.cell? ⟨bv, ov + j * 7 + 3, none⟩ = some (.bool hd) ∧ W'.cell? ⟨bv, ov + j * 7 + 4, none⟩ = some (.int .i64 ol) ∧ W'.cell? ⟨bv, ov + j * 7 + 5, none⟩ = some (.bool hs) ∧ W'.cell? ⟨bv, ov + j * 7 + 6, none⟩ = some (.int .i64 nw)) (by kernel_rfl) (⟨p9, p10, u0, u1, u2, u3, u4, u5, u6, l0, l1, l2, l3, l4, l5, l6, v0, v1, v2, v3, v4, v5, v6⟩) (fun hH => ?_)
            refine hTake (i := 0) (v := ?_) rfl (by kernel_rfl) (by kernel_rfl) (by kernel_rfl) (by rfl) ?_ hH ?_
            rotate_left
            · intro W hW; (try dsimp only at hW); go_simp <;> with_reducible rfl
            simp only [Act.put, List.setIfInBounds_toArray, List.set_cons_zero, List.set_cons_succ]
            refine hTake (i := 1) (v := ?_) rfl (by kernel_rfl) (by kernel_rfl) (by kernel_rfl) (by rfl) ?_ hH ?_
            rotate_left
            · intro W hW; (try dsimp only at hW); go_simp <;> with_reducible rfl
            simp only [Act.put, List.setIfInBounds_toArray, List.set_cons_zero, List.set_cons_succ]
            refine hTake (i := 2) (v := ?_) rfl (by kernel_rfl) (by kernel_rfl) (by kernel_rfl) (by rfl) ?_ hH ?_
            rotate_left
            · intro W hW; (try dsimp only at hW); go_simp <;> with_reducible rfl
            simp only [Act.put, List.setIfInBounds_toArray, List.set_cons_zero, List.set_cons_succ]
            refine hTake (i := 3) (v := ?_) rfl (by kernel_rfl) (by kernel_rfl) (by kernel_rfl) (by rfl) ?_ hH ?_
            rotate_left
            · intro W hW; (try dsimp only at hW); go_simp <;> with_reducible rfl
            simp only [Act.put, List.setIfInBounds_toArray, List.set_cons_zero, List.set_cons_succ]
            refine hTake (i := 4) (v := ?_) rfl (by kernel_rfl) (by kernel_rfl) (by kernel_rfl) (by rfl) ?_ hH ?_
            rotate_left
            · intro W hW; (try dsimp only at hW); go_simp <;> with_reducible rfl
            simp only [Act.put, List.setIfInBounds_toArray, List.set_cons_zero, List.set_cons_succ]
            refine hTake (i := 5) (v := ?_) rfl (by kernel_rfl) (by kernel_rfl) (by kernel_rfl) (by rfl) ?_ hH ?_
            rotate_left
            · intro W hW; (try dsimp only at hW); go_simp <;> with_reducible rfl
            simp only [Act.put, List.setIfInBounds_toArray, List.set_cons_zero, List.set_cons_succ]
            refine hTake (i := 6) (v := ?_) rfl (by kernel_rfl) (by kernel_rfl) (by kernel_rfl) (by rfl) ?_ hH ?_
            rotate_left
            · intro W hW; (try dsimp only at hW); go_simp <;> with_reducible rfl
            simp only [Act.put, List.setIfInBounds_toArray, List.set_cons_zero, List.set_cons_succ]
            refine hTake (i := 7) (v := ?_) rfl (by kernel_rfl) (by kernel_rfl) (by kernel_rfl) (by rfl) ?_ hH ?_
            rotate_left
            · intro W hW; (try dsimp only at hW); go_simp <;> with_reducible rfl
            simp only [Act.put, List.setIfInBounds_toArray, List.set_cons_zero, List.set_cons_succ]
            refine hTake (i := 8) (v := ?_) rfl (by kernel_rfl) (by kernel_rfl) (by kernel_rfl) (by rfl) ?_ hH ?_
            rotate_left
            · intro W hW; (try dsimp only at hW); go_simp <;> with_reducible rfl
            simp only [Act.put, List.setIfInBounds_toArray, List.set_cons_zero, List.set_cons_succ]
            refine hTake (i := 9) (v := ?_) rfl (by kernel_rfl) (by kernel_rfl) (by kernel_rfl) (by rfl) ?_ hH ?_
            rotate_left
            · intro W hW; (try dsimp only at hW); go_simp <;> with_reducible rfl
            simp only [Act.put, List.setIfInBounds_toArray, List.set_cons_zero, List.set_cons_succ]
            refine hTake (i := 10) (v := ?_) rfl (by kernel_rfl) (by kernel_rfl) (by kernel_rfl) (by rfl) ?_ hH ?_
            rotate_left
            · intro W hW; (try dsimp only at hW); go_simp <;> with_reducible rfl
            simp only [Act.put, List.setIfInBounds_toArray, List.set_cons_zero, List.set_cons_succ]
            refine hTake (i := 11) (v := ?_) rfl (by kernel_rfl) (by kernel_rfl) (by kernel_rfl) (by rfl) ?_ hH ?_
            rotate_left
            · intro W hW; (try dsimp only at hW); go_simp <;> with_reducible rfl
            simp only [Act.put, List.setIfInBounds_toArray, List.set_cons_zero, List.set_cons_succ]
            refine hTake (i := 12) (v := ?_) rfl (by kernel_rfl) (by kernel_rfl) (by kernel_rfl) (by rfl) ?_ hH ?_
            rotate_left
            · intro W hW; (try dsimp only at hW); go_simp <;> with_reducible rfl
            simp only [Act.put, List.setIfInBounds_toArray, List.set_cons_zero, List.set_cons_succ]
            refine hTake (i := 13) (v := ?_) rfl (by kernel_rfl) (by kernel_rfl) (by kernel_rfl) (by rfl) ?_ hH ?_
            rotate_left
            · intro W hW; (try dsimp only at hW); go_simp <;> with_reducible rfl
            simp only [Act.put, List.setIfInBounds_toArray, List.set_cons_zero, List.set_cons_succ]
            refine hTake (i := 14) (v := ?_) rfl (by kernel_rfl) (by kernel_rfl) (by kernel_rfl) (by rfl) ?_ hH ?_
            rotate_left
            · intro W hW; (try dsimp only at hW); go_simp <;> with_reducible rfl
            simp only [Act.put, List.setIfInBounds_toArray, List.set_cons_zero, List.set_cons_succ]
            refine hTake (i := 15) (v := ?_) rfl (by kernel_rfl) (by kernel_rfl) (by kernel_rfl) (by rfl) ?_ hH ?_
            rotate_left
            · intro W hW; (try dsimp only at hW); go_simp <;> with_reducible rfl
            simp only [Act.put, List.setIfInBounds_toArray, List.set_cons_zero, List.set_cons_succ]
            refine hTake (i := 16) (v := ?_) rfl (by kernel_rfl) (by kernel_rfl) (by kernel_rfl) (by rfl) ?_ hH ?_
            rotate_left
            · intro W hW; (try dsimp only at hW); go_simp <;> with_reducible rfl
            simp only [Act.put, List.setIfInBounds_toArray, List.set_cons_zero, List.set_cons_succ]
            refine hTake (i := 17) (v := ?_) rfl (by kernel_rfl) (by kernel_rfl) (by kernel_rfl) (by rfl) ?_ hH ?_
            rotate_left
            · intro W hW; (try dsimp only at hW); go_simp <;> with_reducible rfl
            simp only [Act.put, List.setIfInBounds_toArray, List.set_cons_zero, List.set_cons_succ]
            refine hTake (i := 18) (v := ?_) rfl (by kernel_rfl) (by kernel_rfl) (by kernel_rfl) (by rfl) ?_ hH ?_
            rotate_left
            · intro W hW; (try dsimp only at hW); go_simp <;> with_reducible rfl
            simp only [Act.put, List.setIfInBounds_toArray, List.set_cons_zero, List.set_cons_succ]
            refine hTake (i := 19) (v := ?_) rfl (by kernel_rfl) (by kernel_rfl) (by kernel_rfl) (by rfl) ?_ hH ?_
            rotate_left
            · intro W hW; (try dsimp only at hW); go_simp <;> with_reducible rfl
            simp only [Act.put, List.setIfInBounds_toArray, List.set_cons_zero, List.set_cons_succ]
            refine hTake (i := 20) (v := ?_) rfl (by kernel_rfl) (by kernel_rfl) (by kernel_rfl) (by rfl) ?_ hH ?_
            rotate_left
            · intro W hW; (try dsimp only at hW); go_simp <;> with_reducible rfl
            simp only [Act.put, List.setIfInBounds_toArray, List.set_cons_zero, List.set_cons_succ]
            refine hTake (i := 21) (v := ?_) rfl (by kernel_rfl) (by kernel_rfl) (by kernel_rfl) (by rfl) ?_ hH ?_
            rotate_left
            · intro W hW; (try dsimp only at hW); go_simp <;> with_reducible rfl
            simp only [Act.put, List.setIfInBounds_toArray, List.set_cons_zero, List.set_cons_succ]
            refine hTake (i := 22) (v := ?_) rfl (by kernel_rfl) (by kernel_rfl) (by kernel_rfl) (by rfl) ?_ hH ?_
            rotate_left
            · intro W hW; (try dsimp only at hW); go_simp <;> with_reducible rfl
            simp only [Act.put, List.setIfInBounds_toArray, List.set_cons_zero, List.set_cons_succ]
            refine hTake (i := 23) (v := ?_) rfl (by kernel_rfl) (by kernel_rfl) (by kernel_rfl) (by rfl) ?_ hH ?_
            rotate_left
            · intro W hW; (try dsimp only at hW); go_simp <;> with_reducible rfl
            simp only [Act.put, List.setIfInBounds_toArray, List.set_cons_zero, List.set_cons_succ]
            refine hTake (i := 24) (v := ?_) rfl (by kernel_rfl) (by kernel_rfl) (by kernel_rfl) (by rfl) ?_ hH ?_
            rotate_left
            · intro W hW; (try dsimp only at hW); go_simp <;> with_reducible rfl
            simp only [Act.put, List.setIfInBounds_toArray, List.set_cons_zero, List.set_cons_succ]
            refine hTake (i := 25) (v := ?_) rfl (by kernel_rfl) (by kernel_rfl) (by kernel_rfl) (by rfl) ?_ hH ?_
            rotate_left
            · intro W hW; (try dsimp only at hW); go_simp <;> with_reducible rfl
            simp only [Act.put, List.setIfInBounds_toArray, List.set_cons_zero, List.set_cons_succ]
            refine hTake (i := 26) (v := ?_) rfl (by kernel_rfl) (by kernel_rfl) (by kernel_rfl) (by rfl) ?_ hH ?_
            rotate_left
            · intro W hW; (try dsimp only at hW); go_simp <;> with_reducible rfl
            simp only [Act.put, List.setIfInBounds_toArray, List.set_cons_zero, List.set_cons_succ]
            refine hTake (i := 27) (v := ?_) rfl (by kernel_rfl) (by kernel_rfl) (by kernel_rfl) (by rfl) ?_ hH ?_
            rotate_left
            · intro W hW; (try dsimp only at hW); go_simp <;> with_reducible rfl
            simp only [Act.put, List.setIfInBounds_toArray, List.set_cons_zero, List.set_cons_succ]
            refine hTake (i := 28) (v := ?_) rfl (by kernel_rfl) (by kernel_rfl) (by kernel_rfl) (by rfl) ?_ hH ?_
            rotate_left
            · intro W hW; (try dsimp only at hW); go_simp <;> with_reducible rfl
            simp only [Act.put, List.setIfInBounds_toArray, List.set_cons_zero, List.set_cons_succ]
            refine wpAnyH_done (by kernel_rfl) ?_ _
            refine NoPanic.normal ?_
            clear hH
            go_wp2
            go_roundw
            case rel => exact ⟨j + 1, by omega, by go_num, p9, p10, CU0, CV0, CL, hBq.drew⟩
            case measure => simp [intOf]; omega
          · generalize rs.getD j Ch.Rec.zero = r at *
            obtain ⟨kd, tx, ky, hd, ol, hs, nw⟩ := r
            simp only at u0 u1 u2 u3 u4 u5 u6 l0 l1 l2 l3 l4 l5 l6
            have hjv' : decide ((j : Int) < (n3 : Int)) = false := by simp; omega
            have hneq := fun W => neqRec kd tx ky hd ol hs nw kd tx ky hd ol hs nw W
            simp only [beq_self_eq_true, Bool.and_self, Bool.not_true] at hneq
            go_upto_region 23 with fail
            refine wp_region_noPanic ?_
            refine wp_region_held_drew (S := fun W' => W'.cell? ⟨w2.heap.size, 2, none⟩ = some (.slice (some ⟨bu, ou, none⟩) n2 k2) ∧ W'.cell? ⟨w3.heap.size, 2, none⟩ = some (.slice a3 n3 k3) ∧ W'.cell? ⟨bu, ou + j * 7, none⟩ = some (.int .i64 kd) ∧ W'.cell? ⟨bu, ou + j * 7 + 1, none⟩ = some (.int .i64 tx) ∧ W'.cell? ⟨bu, ou + j * 7 + 2, none⟩ = some (.int .i64 ky) ∧ W'.cell? ⟨bu, ou + j * 7 + 3, none⟩ = some (.bool hd) ∧ W'.cell? ⟨bu, ou + j * 7 + 4, none⟩ = some (.int .i64 ol) ∧ W'.cell? ⟨bu, ou + j * 7 + 5, none⟩ = some (.bool hs) ∧ W'.cell? ⟨bu, ou + j * 7 + 6, none⟩ = some (.int .i64 nw) ∧ W'.cell? ⟨g2, j * 7, none⟩ = some (.int .i64 kd) ∧ W'.cell? ⟨g2, j * 7 + 1, none⟩ = some (.int .i64 tx) ∧ W'.cell? ⟨g2, j * 7 + 2, none⟩ = some (.int .i64 ky) ∧ W'.cell? ⟨g2, j * 7 + 3, none⟩ = some (.bool hd) ∧ W'.cell? ⟨g2, j * 7 + 4, none⟩ = some (.int .i64 ol) ∧ W'.cell? ⟨g2, j * 7 + 5, none⟩ = some (.bool hs) ∧ W'.cell? ⟨g2, j * 7 + 6, none⟩ = some (.int .i64 nw)) (by kernel_rfl) (⟨p9, p10, u0, u1, u2, u3, u4, u5, u6, l0, l1, l2, l3, l4, l5, l6⟩) (fun hH => ?_)
            refine hTake (i := 0) (v := ?_) rfl (by kernel_rfl) (by kernel_rfl) (by kernel_rfl) (by rfl) ?_ hH ?_
            rotate_left
            · intro W hW; (try dsimp only at hW); go_simp <;> with_reducible rfl
            simp only [Act.put, List.setIfInBounds_toArray, List.set_cons_zero, List.set_cons_succ]
            refine hTake (i := 1) (v := ?_) rfl (by kernel_rfl) (by kernel_rfl) (by kernel_rfl) (by rfl) ?_ hH ?_
            rotate_left
            · intro W hW; (try dsimp only at hW); go_simp <;> with_reducible rfl
            simp only [Act.put, List.setIfInBounds_toArray, List.set_cons_zero, List.set_cons_succ]
            refine hTake (i := 2) (v := ?_) rfl (by kernel_rfl) (by kernel_rfl) (by kernel_rfl) (by rfl) ?_ hH ?_
            rotate_left
            · intro W hW; (try dsimp only at hW); go_simp <;> with_reducible rfl
            simp only [Act.put, List.setIfInBounds_toArray, List.set_cons_zero, List.set_cons_succ]
            refine hTake (i := 3) (v := ?_) rfl (by kernel_rfl) (by kernel_rfl) (by kernel_rfl) (by rfl) ?_ hH ?_
            rotate_left
            · intro W hW; (try dsimp only at hW); go_simp <;> with_reducible rfl
            simp only [Act.put, List.setIfInBounds_toArray, List.set_cons_zero, List.set_cons_succ]
            refine hTake (i := 4) (v := ?_) rfl (by kernel_rfl) (by kernel_rfl) (by kernel_rfl) (by rfl) ?_ hH ?_
            rotate_left
            · intro W hW; (try dsimp only at hW); go_simp <;> with_reducible rfl
            simp only [Act.put, List.setIfInBounds_toArray, List.set_cons_zero, List.set_cons_succ]
            refine hTake (i := 5) (v := ?_) rfl (by kernel_rfl) (by kernel_rfl) (by kernel_rfl) (by rfl) ?_ hH ?_
            rotate_left
            · intro W hW; (try dsimp only at hW); go_simp <;> with_reducible rfl
            simp only [Act.put, List.setIfInBounds_toArray, List.set_cons_zero, List.set_cons_succ]
            refine hTake (i := 6) (v := ?_) rfl (by kernel_rfl) (by kernel_rfl) (by kernel_rfl) (by rfl) ?_ hH ?_
            rotate_left
            · intro W hW; (try dsimp only at hW); go_simp <;> with_reducible rfl
            simp only [Act.put, List.setIfInBounds_toArray, List.set_cons_zero, List.set_cons_succ]
            refine hTake (i := 7) (v := ?_) rfl (by kernel_rfl) (by kernel_rfl) (by kernel_rfl) (by rfl) ?_ hH ?_
            rotate_left
            · intro W hW; (try dsimp only at hW); go_simp <;> with_reducible rfl
            simp only [Act.put, List.setIfInBounds_toArray, List.set_cons_zero, List.set_cons_succ]
            refine hTake (i := 8) (v := ?_) rfl (by kernel_rfl) (by kernel_rfl) (by kernel_rfl) (by rfl) ?_ hH ?_
            rotate_left
            · intro W hW; (try dsimp only at hW); go_simp <;> with_reducible rfl
            simp only [Act.put, List.setIfInBounds_toArray, List.set_cons_zero, List.set_cons_succ]
            refine hTake (i := 9) (v := ?_) rfl (by kernel_rfl) (by kernel_rfl) (by kernel_rfl) (by rfl) ?_ hH ?_
            rotate_left
            · intro W hW; (try dsimp only at hW); go_simp <;> with_reducible rfl
            simp only [Act.put, List.setIfInBounds_toArray, List.set_cons_zero, List.set_cons_succ]
            refine hTake (i := 10) (v := ?_) rfl (by kernel_rfl) (by kernel_rfl) (by kernel_rfl) (by rfl) ?_ hH ?_
            rotate_left
            · intro W hW; (try dsimp only at hW); go_simp <;> with_reducible rfl
            simp only [Act.put, List.setIfInBounds_toArray, List.set_cons_zero, List.set_cons_succ]
            refine hTake (i := 11) (v := ?_) rfl (by kernel_rfl) (by kernel_rfl) (by kernel_rfl) (by rfl) ?_ hH ?_
            rotate_left
            · intro W hW; (try dsimp only at hW); go_simp <;> with_reducible rfl
            simp only [Act.put, List.setIfInBounds_toArray, List.set_cons_zero, List.set_cons_succ]
            refine hTake (i := 12) (v := ?_) rfl (by kernel_rfl) (by kernel_rfl) (by kernel_rfl) (by rfl) ?_ hH ?_
            rotate_left
            · intro W hW; (try dsimp only at hW); go_simp <;> with_reducible rfl
            simp only [Act.put, List.setIfInBounds_toArray, List.set_cons_zero, List.set_cons_succ]
            refine hTake (i := 13) (v := ?_) rfl (by kernel_rfl) (by kernel_rfl) (by kernel_rfl) (by rfl) ?_ hH ?_
            rotate_left
            · intro W hW; (try dsimp only at hW); go_simp <;> with_reducible rfl
            simp only [Act.put, List.setIfInBounds_toArray, List.set_cons_zero, List.set_cons_succ]
            refine hTake (i := 14) (v := ?_) rfl (by kernel_rfl) (by kernel_rfl) (by kernel_rfl) (by rfl) ?_ hH ?_
            rotate_left
            · intro W hW; (try dsimp only at hW); go_simp <;> with_reducible rfl
            simp only [Act.put, List.setIfInBounds_toArray, List.set_cons_zero, List.set_cons_succ]
            refine hTake (i := 15) (v := ?_) rfl (by kernel_rfl) (by kernel_rfl) (by kernel_rfl) (by rfl) ?_ hH ?_
            rotate_left
            · intro W hW; (try dsimp only at hW); go_simp <;> with_reducible rfl
            simp only [Act.put, List.setIfInBounds_toArray, List.set_cons_zero, List.set_cons_succ]
            refine hTake (i := 16) (v := ?_) rfl (by kernel_rfl) (by kernel_rfl) (by kernel_rfl) (by rfl) ?_ hH ?_
            rotate_left
            · intro W hW; (try dsimp only at hW); go_simp <;> with_reducible rfl
            simp only [Act.put, List.setIfInBounds_toArray, List.set_cons_zero, List.set_cons_succ]
            refine hSkip (i := 17) rfl (by kernel_rfl) (by kernel_rfl) (by kernel_rfl) (by rfl) hH ?_
            simp only [Act.put, List.setIfInBounds_toArray, List.set_cons_zero, List.set_cons_succ]
            refine hSkip (i := 18) rfl (by kernel_rfl) (by kernel_rfl) (by kernel_rfl) (by rfl) hH ?_
            simp only [Act.put, List.setIfInBounds_toArray, List.set_cons_zero, List.set_cons_succ]
            refine hSkip (i := 19) rfl (by kernel_rfl) (by kernel_rfl) (by kernel_rfl) (by rfl) hH ?_
            simp only [Act.put, List.setIfInBounds_toArray, List.set_cons_zero, List.set_cons_succ]
            refine hSkip (i := 20) rfl (by kernel_rfl) (by kernel_rfl) (by kernel_rfl) (by rfl) hH ?_
            simp only [Act.put, List.setIfInBounds_toArray, List.set_cons_zero, List.set_cons_succ]
            refine hSkip (i := 21) rfl (by kernel_rfl) (by kernel_rfl) (by kernel_rfl) (by rfl) hH ?_
            simp only [Act.put, List.setIfInBounds_toArray, List.set_cons_zero, List.set_cons_succ]
            refine hSkip (i := 22) rfl (by kernel_rfl) (by kernel_rfl) (by kernel_rfl) (by rfl) hH ?_
            simp only [Act.put, List.setIfInBounds_toArray, List.set_cons_zero, List.set_cons_succ]
            refine hSkip (i := 23) rfl (by kernel_rfl) (by kernel_rfl) (by kernel_rfl) (by rfl) hH ?_
            simp only [Act.put, List.setIfInBounds_toArray, List.set_cons_zero, List.set_cons_succ]
            refine hSkip (i := 24) rfl (by kernel_rfl) (by kernel_rfl) (by kernel_rfl) (by rfl) hH ?_
            simp only [Act.put, List.setIfInBounds_toArray, List.set_cons_zero, List.set_cons_succ]
            refine hSkip (i := 25) rfl (by kernel_rfl) (by kernel_rfl) (by kernel_rfl) (by rfl) hH ?_
            simp only [Act.put, List.setIfInBounds_toArray, List.set_cons_zero, List.set_cons_succ]
            refine hSkip (i := 26) rfl (by kernel_rfl) (by kernel_rfl) (by kernel_rfl) (by rfl) hH ?_
            simp only [Act.put, List.setIfInBounds_toArray, List.set_cons_zero, List.set_cons_succ]
            refine hTake (i := 27) (v := ?_) rfl (by kernel_rfl) (by kernel_rfl) (by kernel_rfl) (by rfl) ?_ hH ?_
            rotate_left
            · intro W hW; (try dsimp only at hW); go_simp <;> with_reducible rfl
            simp only [Act.put, List.setIfInBounds_toArray, List.set_cons_zero, List.set_cons_succ]
            refine hTake (i := 28) (v := ?_) rfl (by kernel_rfl) (by kernel_rfl) (by kernel_rfl) (by rfl) ?_ hH ?_
            rotate_left
            · intro W hW; (try dsimp only at hW); go_simp <;> with_reducible rfl
            simp only [Act.put, List.setIfInBounds_toArray, List.set_cons_zero, List.set_cons_succ]
            refine wpAnyH_done (by kernel_rfl) ?_ _
            refine NoPanic.normal ?_
            clear hH
            go_wp2
            go_roundw
            case rel => exact ⟨j + 1, by omega, by go_num, p9, p10, CU0, CV0, CL, hBq.drew⟩
            case measure => simp [intOf]; omega
        · obtain rfl : j = n2 := by omega
          go_wp2
          go_ret
          exact ⟨rfl, hBq⟩
end Go.Proofs.Ytapahapjajijeaa
