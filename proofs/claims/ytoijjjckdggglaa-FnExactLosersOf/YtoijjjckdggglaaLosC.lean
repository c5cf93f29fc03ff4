
/- LosersOf of the program and of the model. -/
import Derived.Test.YtoijjjckdggglaaLosB
import Derived.Test.YtoijjjckdggglaaRvD
namespace Go.Proofs.Ytoijjjckdggglaa
open Go.RowKit Go.Maps

set_option linter.unusedSimpArgs false in
set_option maxRecDepth 20000 in
set_option maxHeartbeats 4000000 in
theorem specLosers_any (a : Option Addr) (n cap : Nat) (rs : List Ch.Rec) (w : World) (h : CellsAt w a (n * 7) (rc7 rs)) (hn : n ≤ 1048576) :
    Calls Try.prog 45 #[.slice a n cap] w fun e w' => ∃ a' m c', e = .returned (.slice a' m c') ∧ m ≤ 999 ∧ w'.ownsRow w.heap.size 2 1 (.slice a' m c') m (icells (Ch.losL rs)) ∧ Below w.heap.size w w' := by
  obtain ⟨i0, hi0, hz0, hz1, hz2⟩ := info_parts Try.info2
  have HLI := hid (fun t => Ch.lost_is rs t)
  have HLY := hid (fun m h => Ch.losTo_yes (rs := rs) (m := m) h)
  have HLN := hid (fun m h => Ch.losTo_no (rs := rs) (m := m) h)
  have hLL : Hid (Ch.losL rs = Ch.losTo rs 999) := rfl
  rw [hLL.out]
  have IK := fun kd W hW => kind_any a n cap kd rs W hW hn
  generalize HK1 : Ch.kindL rs 1 = K1 at HLI
  generalize HK4 : Ch.kindL rs 4 = K4 at HLI
  generalize HK5 : Ch.kindL rs 5 = K5 at HLI
  have I1 := fun W hW => IK 1 W hW
  have I4 := fun W hW => IK 4 W hW
  have I5 := fun W hW => IK 5 W hW
  rw [HK1] at I1
  rw [HK4] at I4
  rw [HK5] at I5
  clear IK HK1 HK4 HK5 hLL
  go_enter Try.func45, Try.ntmps45
  go_wp2_with fail
  refine (I1 _ h).mono ?_
  rintro e w1 ⟨a1, m1, c1, rfl, hm1, o1, b1⟩
  clear I1
  go_wp2_with fail
  refine (I4 _ (h.below b1)).mono ?_
  rintro e w2 ⟨a2, m2, c2, rfl, hm2, o2, b2⟩
  clear I4
  have b2' := b1.trans (b2.mono b1.size)
  have LT1 : ∀ g, (Value.slice a1 m1 c1).ownBlock = some g → g < w1.heap.size := fun g hg => (owns_lt o1 g hg).2
  have o1 := owns_below o1 b2
  go_wp2_with fail
  refine (I5 _ (h.below b2')).mono ?_
  rintro e w3 ⟨a3, m3, c3, rfl, hm3, o3, b3⟩
  clear I5
  have b3' := b2'.trans (b3.mono b2'.size)
  have o1 := owns_below o1 b3
  have o2 := owns_below o2 b3
  have z1 := b1.size
  have z2 := b2.size
  have z3 := b3.size
  have hsum : m2 + m3 ≤ 4194304 := by omega
  have L1 := owns_lt o1
  have L2 := owns_lt o2
  have D1 : ∀ g, (Value.slice a1 m1 c1).ownBlock = some g → g < w1.heap.size := fun g hg => LT1 g hg
  go_wp2_with (at_builtin; go_must (refine wpList_appX Try.underlying26 Try.underlying26 hi0 hz0 hz1 hz2 rfl (by omega) (by omega) (.tmp 10) (.tmp 12) ?_ ?_ w1.heap.size (.slice a2 m2 c2) m2 (icells K4) a3 m3 c3 (icells K5) ?_ ?_ o2 (owns_cells o3) (icells_one' K5) hsum (by omega) ?_; exact rfl; exact rfl; exact rfl; exact rfl; intro a4 c4 w4 o4 gr4 at4; have oE := own_empty w4 w4.heap.size 2 1 (Nat.le_refl _); have kE : Below w4.heap.size w4 (w4.alloc (.cells #[] 2)) := (Below.refl _ _).alloc (Nat.le_refl _) _))
  have o1 := owns_grown o1 gr4 (fun g hg hk => by have := D1 g hg; have := (L2 g hk).1; omega)
  have b4' := b3'.grown gr4 b3'.size (fun g hg => by have := (L2 g hg).1; omega)
  rw [← icells_append] at o4
  have z4 := b4'.size
  clear o2 o3 gr4 at4 L1 L2 D1 b1 b2 b3 b3' b2'
  generalize K4 ++ K5 = KE at *
  go_loopw [5, 6] (fun q i wr => ∃ (k m : Nat) (a' : Option Addr) (c' : Nat), k ≤ 999 ∧ m ≤ k ∧ i = .int .i64 ((k : Int) + 1) ∧ q = .slice a' m c' ∧ wr.ownsRow w4.heap.size 2 1 (.slice a' m c') m (icells (Ch.losTo rs k)) ∧ Below w4.heap.size w4 wr) (fun _ i _ => 1000 - (intOf i).toNat)
  case atStart => exact ⟨0, 0, _, _, Nat.zero_le _, Nat.le_refl _, rfl, rfl, oE, kE⟩
  case round =>
    clear oE kE
    obtain ⟨k, m, a', c', hk, hmk, rfl, rfl, own, hB⟩ := hrel
    by_cases hlt : k < 999
    · have hle : (k : Int) + 1 ≤ 999 := by omega
      have hge : 0 ≤ (k : Int) + 1 := by omega
      replace HLI := hid (HLI.out ((k : Int) + 1))
      replace HLY := hid (fun h => HLY.out k h)
      replace HLN := hid (fun h => HLN.out k h)
      have C1 := owns_cells (owns_below o1 hB)
      have CE := owns_cells (owns_below o4 hB)
      have IC := fun W hW => amongV_any a1 m1 c1 ((k : Int) + 1) K1 W hW (by omega)
      have IE := fun W hW => amongV_any a4 (m2 + m3) c4 ((k : Int) + 1) KE W hW (by omega)
      generalize Ch.losTo rs k = zs at *
      generalize Ch.Ft.lost (Ch.fate rs ((k : Int) + 1)) = lb at *
      generalize K1.contains ((k : Int) + 1) = cb at *
      generalize KE.contains ((k : Int) + 1) = ce at *
      have i1 : 1000 - (k + 1 + 1) < 1000 - (k + 1) := by omega
      cases cb
      · have HQ := hid (HLN.out (by rw [HLI.out]; rfl))
        clear HLI HLY HLN
        go_wp2_with (go_at_call 53; refine (IC _ C1).mono ?_; rintro e w5 ⟨rfl, hw5⟩; obtain rfl := hw5.symm)
        go_roundw
        case rel => exact ⟨k + 1, m, a', c', by omega, by omega, by go_num, rfl, by rw [HQ.out]; exact own, hB⟩
        case measure => simp [intOf]; omega
      · cases ce
        · have HQ := hid (HLY.out (by rw [HLI.out]; rfl))
          clear HLI HLY HLN
          have kQ : Below wr.heap.size wr (wr.alloc (.cells #[.int .i64 ((k : Int) + 1)] 2)) := (Below.refl _ _).alloc (Nat.le_refl _) _
          have own3 := owns_below own kQ
          have hC3 := new_int wr ((k : Int) + 1) 2
          have hb3 : w4.heap.size ≤ (wr.alloc (.cells #[.int .i64 ((k : Int) + 1)] 2)).heap.size := by have := hB.size; simp; omega
          have b3 := hB.trans (kQ.mono hB.size)
          go_wp2_with (first | (at_builtin; go_must (refine wpList_appX Try.underlying26 Try.underlying26 hi0 hz0 hz1 hz2 rfl (by omega) (by omega) (.tmp 28) (.tmp 30) ?_ ?_ w4.heap.size (.slice a' m c') m (icells zs) _ 1 1 (icells [(k : Int) + 1]) ?_ ?_ own3 hC3 (icells_one' [(k : Int) + 1]) (by omega) hb3 ?_; exact rfl; exact rfl; exact rfl; exact rfl; intro a5 c5 w5 own5 gr5 at5; go_frame)) | (go_at_call 53; first | (refine (IC _ C1).mono ?_; rintro e w5 ⟨rfl, hw5⟩; obtain rfl := hw5.symm; clear IC) | (refine (IE _ CE).mono ?_; rintro e w5 ⟨rfl, hw5⟩; obtain rfl := hw5.symm)))
          go_roundw
          case rel =>
            rw [← icells_append, ← HQ.out] at own5
            exact ⟨k + 1, m + 1, a5, c5, by omega, by omega, by go_num, rfl, own5, b3.grown gr5 b3.size (fun g hg => (owns_lt own3 g hg).1)⟩
          case measure => simp [intOf]; omega
        · have HQ := hid (HLN.out (by rw [HLI.out]; rfl))
          clear HLI HLY HLN
          go_wp2_with (go_at_call 53; first | (refine (IC _ C1).mono ?_; rintro e w5 ⟨rfl, hw5⟩; obtain rfl := hw5.symm; clear IC) | (refine (IE _ CE).mono ?_; rintro e w5 ⟨rfl, hw5⟩; obtain rfl := hw5.symm))
          go_roundw
          case rel => exact ⟨k + 1, m, a', c', by omega, by omega, by go_num, rfl, by rw [HQ.out]; exact own, hB⟩
          case measure => simp [intOf]; omega
    · obtain rfl : k = 999 := by omega
      go_wp2
      go_ret
      exact ⟨a', m, c', rfl, by omega, owns_base own (by omega), b4'.trans (hB.mono b4'.size)⟩

set_option linter.unusedSimpArgs false in
set_option maxRecDepth 20000 in
set_option maxHeartbeats 2000000 in
theorem specLos_any (a : Option Addr) (n cap : Nat) (rs : List Ch.Rec) (w : World) (h : CellsAt w a (n * 7) (rc7 rs)) (hn : n ≤ 1048576) :
    Calls Try.prog 19 #[.slice a n cap] w fun e w' => ∃ a' m c', e = .returned (.agg #[.int .i64 (Ch.losR rs).1, .slice a' m c']) ∧ m ≤ 1048576 ∧ w'.ownsRow w.heap.size 2 1 (.slice a' m c') m (icells (Ch.losR rs).2) ∧ Below w.heap.size w w' := by
  have IA := fun W hW => specRecs_any a n cap rs W hW hn
  have kA : ∀ o, Below w.heap.size w (w.alloc o) := fun o => (Below.refl _ _).alloc (Nat.le_refl _) o
  obtain ⟨c, HC⟩ : ∃ c, Hid (Ch.recsF rs = c) := ⟨_, rfl⟩
  rw [HC.out] at IA
  by_cases h0 : c = 0
  rotate_left
  · have hc : (c != 0) = true := by simpa using h0
    rw [Ch.losR_bad HC.out hc]
    clear HC h0
    go_enter Try.func19, Try.ntmps19
    go_wp2_with fail
    refine (IA _ (h.below (kA _))).mono ?_
    rintro e w1 ⟨rfl, b1⟩
    have hR := block_belowV b1 (heap_alloc_new w _)
    have b1 := below_box b1
    have lz := (Array.getElem?_eq_some_iff.1 hR).1
    obtain ⟨x0, x1, f0, f1⟩ := row2 hR
    go_wp2
    exact bodyPost_ret (v := .agg #[.int .i64 c, .slice none 0 0]) (by simp [results, Try.results19, go_sem, x0, x1]) rfl ⟨none, 0, 0, rfl, by omega, World.ownsRow_nil _ _ _ _, (b1.setCell (p := ⟨w.heap.size, 0, none⟩) (Nat.le_refl _) _).setCell (p := ⟨w.heap.size, 1, none⟩) (Nat.le_refl _) _⟩
  subst h0
  rw [Ch.losR_ok HC.out]
  clear HC
  go_enter Try.func19, Try.ntmps19
  go_wp2_with fail
  refine (IA _ (h.below (kA _))).mono ?_
  rintro e w1 ⟨rfl, b1⟩
  have hR := block_belowV b1 (heap_alloc_new w _)
  have hR0 := hR
  have b1 := below_box b1
  clear IA
  go_wp2_with fail
  refine (specLosers_any a n cap rs _ (h.below b1) hn).mono ?_
  rintro e w2 ⟨a2, m2, c2, rfl, hm2, o2, b2⟩
  have hR := block_belowV b2 hR
  have b2' := b1.trans (b2.mono b1.size)
  obtain ⟨x0, x1, f0, f1⟩ := row2 hR
  have L2 := owns_lt o2
  have z1 := b1.size
  have lz := (Array.getElem?_eq_some_iff.1 hR).1
  have lz1 : w.heap.size < w1.heap.size := (Array.getElem?_eq_some_iff.1 hR0).1
  go_wp2
  refine bodyPost_ret (v := .agg #[.int .i64 0, .slice a2 m2 c2]) (by simp [results, Try.results19, go_sem, x0, x1]) rfl ⟨a2, m2, c2, rfl, by omega, ?_, ?_⟩
  · refine owns_base (base := w1.heap.size) (ownsRow_setCell_below (ownsRow_setCell_below o2 ?_ _) ?_ _) (by omega)
    · show w.heap.size < w1.heap.size; omega
    · show w.heap.size < w1.heap.size; omega
  · exact (b2'.setCell (p := ⟨w.heap.size, 0, none⟩) (Nat.le_refl _) _).setCell (p := ⟨w.heap.size, 1, none⟩) (Nat.le_refl _) _

set_option linter.unusedSimpArgs false in
set_option maxRecDepth 20000 in
set_option maxHeartbeats 2000000 in
theorem implLos_any (a : Option Addr) (n cap : Nat) (rs : List Ch.Rec) (w : World) (h : CellsAt w a (n * 7) (rc7 rs)) (hn : n ≤ 1048576) :
    Calls Try.prog 20 #[.slice a n cap] w fun e w' => ∃ a' m c', e = .returned (.agg #[.int .i64 (Ch.losR rs).1, .slice a' m c']) ∧ m ≤ 1048576 ∧ w'.ownsRow w.heap.size 2 1 (.slice a' m c') m (icells (Ch.losR rs).2) ∧ Below w.heap.size w w' := by
  have IA := fun W hW => implRecs_any a n cap rs W hW hn
  have kA : ∀ o, Below w.heap.size w (w.alloc o) := fun o => (Below.refl _ _).alloc (Nat.le_refl _) o
  obtain ⟨c, HC⟩ : ∃ c, Hid (Ch.recsF rs = c) := ⟨_, rfl⟩
  rw [HC.out] at IA
  by_cases h0 : c = 0
  rotate_left
  · have hc : (c != 0) = true := by simpa using h0
    rw [Ch.losR_bad HC.out hc]
    clear HC h0
    go_enter Try.func20, Try.ntmps20
    go_wp2_with fail
    refine (IA _ (h.below (kA _))).mono ?_
    rintro e w1 ⟨rfl, b1⟩
    have hR := block_belowV b1 (heap_alloc_new w _)
    have b1 := below_box b1
    have lz := (Array.getElem?_eq_some_iff.1 hR).1
    obtain ⟨x0, x1, f0, f1⟩ := row2 hR
    go_wp2
    exact bodyPost_ret (v := .agg #[.int .i64 c, .slice none 0 0]) (by simp [results, Try.results20, go_sem, x0, x1]) rfl ⟨none, 0, 0, rfl, by omega, World.ownsRow_nil _ _ _ _, (b1.setCell (p := ⟨w.heap.size, 0, none⟩) (Nat.le_refl _) _).setCell (p := ⟨w.heap.size, 1, none⟩) (Nat.le_refl _) _⟩
  subst h0
  rw [Ch.losR_ok HC.out]
  have HZ := hid (Ch.recsF_zero HC.out)
  have HL := h.len7
  have h8 : n ≤ 800 := by have h1 := HZ.out.1; have h2 := HL.out; omega
  have HM := hid (fun t => Ch.losL_mem rs t)
  have HS := hid (Ch.losL_sorted rs)
  clear HC
  go_enter Try.func20, Try.ntmps20
  go_wp2_with fail
  refine (IA _ (h.below (kA _))).mono ?_
  rintro e w1 ⟨rfl, b1⟩
  have hR := block_belowV b1 (heap_alloc_new w _)
  have hR0 := hR
  have b1 := below_box b1
  clear IA
  go_wp2_with fail
  refine (fates_any a n cap rs _ (h.below b1) h8 HZ.out.2).mono ?_
  rintro e w2 ⟨N, D, rfl, hN, om, fm, b2⟩
  have hR := block_belowV b2 hR
  have b2' := b1.trans (b2.mono b1.size)
  have hml : ∀ t, t ∈ Ch.losL rs ↔ (Ch.fate rs t).lost = true := fun t => by
    rw [HM.out t]
    constructor
    · exact fun h => h.2.2
    · intro hl
      have hh : Maps.has D (kF t) = true := by
        cases hb : Maps.has D (kF t)
        · rw [fm.none hb] at hl
          simp [Ch.Ft.lost, Ch.Ft.zero] at hl
        · rfl
      exact ⟨(fm.has t hh).1, (fm.has t hh).2, hl⟩
  have hcon := losers_any w1.heap.size N D (Ch.fate rs) (Ch.losL rs) w2 om fm (by omega) HS.out hml
  clear HM HS hml fm om
  go_wp2_with fail
  refine hcon.mono ?_
  rintro e w3 ⟨a2, m2, c2, rfl, hm2, o2, b3⟩
  clear hcon
  have hR := block_belowV b3 hR
  have b3' := b2'.trans (b3.mono b2'.size)
  obtain ⟨x0, x1, f0, f1⟩ := row2 hR
  have L2 := owns_lt o2
  have z1 := b1.size
  have z2 := b2.size
  have lz := (Array.getElem?_eq_some_iff.1 hR).1
  have lz1 : w.heap.size < w1.heap.size := (Array.getElem?_eq_some_iff.1 hR0).1
  go_wp2
  refine bodyPost_ret (v := .agg #[.int .i64 0, .slice a2 m2 c2]) (by simp [results, Try.results20, go_sem, x0, x1]) rfl ⟨a2, m2, c2, rfl, by omega, ?_, ?_⟩
  · refine owns_base (base := w2.heap.size) (ownsRow_setCell_below (ownsRow_setCell_below o2 ?_ _) ?_ _) (by omega)
    · show w.heap.size < w2.heap.size; omega
    · show w.heap.size < w2.heap.size; omega
  · exact (b3'.setCell (p := ⟨w.heap.size, 0, none⟩) (Nat.le_refl _) _).setCell (p := ⟨w.heap.size, 1, none⟩) (Nat.le_refl _) _

end Go.Proofs.Ytoijjjckdggglaa
