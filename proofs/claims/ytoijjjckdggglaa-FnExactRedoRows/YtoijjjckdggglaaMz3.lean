/- Several texts in one: LosC, RdI, RdJ, RdL. -/
import Derived.Test.YtoijjjckdggglaaMz2
import Derived.Test.YtoijjjckdggglaaRvD
import Derived.Test.YtoijjjckdggglaaMz1
import Derived.Test.YtoijjjckdggglaaMz0


/- LosersOf of the program and of the model. -/
namespace Go.Proofs.Ytoijjjckdggglaa
open Go.RowKit Go.Maps

set_option linter.unusedSimpArgs false in
set_option maxRecDepth 20000 in
set_option maxHeartbeats 4000000 in
theorem specLosers_any (a : Option Addr) (n cap : Nat) (rs : List Ch.Rec) (w : World) (h : CellsAt w a (n * 7) (rc7 rs)) (hn : n ≤ 1048576) :
    Calls Try.prog 45 #[.slice a n cap] w fun e w' => ∃ a' m c', e = .returned (.slice a' m c') ∧ m ≤ 999 ∧ w'.ownsRow w.heap.size 2 1 (.slice a' m c') m (icells (Ch.losL rs)) ∧ Below w.heap.size w w' := by
  obtain ⟨i0, hi0, hz0, hz1, hz2⟩ := info_parts Try.info2
  have HLI := hid (fun t => Ch.lost_is rs t)
  have HLY := hid (fun m h => Ch.losTo_yes (rs := rs) (m := m) h)
  have HLN := hid (fun m h => Ch.losTo_no (rs := rs) (m := m) h)
  have hLL : Hid (Ch.losL rs = Ch.losTo rs 999) := rfl
  rw [hLL.out]
  have IK := fun kd W hW => kind_any a n cap kd rs W hW hn
  generalize HK1 : Ch.kindL rs 1 = K1 at HLI
  generalize HK4 : Ch.kindL rs 4 = K4 at HLI
  generalize HK5 : Ch.kindL rs 5 = K5 at HLI
  have I1 := fun W hW => IK 1 W hW
  have I4 := fun W hW => IK 4 W hW
  have I5 := fun W hW => IK 5 W hW
  rw [HK1] at I1
  rw [HK4] at I4
  rw [HK5] at I5
  clear IK HK1 HK4 HK5 hLL
  go_enter Try.func45, Try.ntmps45
  go_wp2_with fail
  refine (I1 _ h).mono ?_
  rintro e w1 ⟨a1, m1, c1, rfl, hm1, o1, b1⟩
  clear I1
  go_wp2_with fail
  refine (I4 _ (h.below b1)).mono ?_
  rintro e w2 ⟨a2, m2, c2, rfl, hm2, o2, b2⟩
  clear I4
  have b2' := b1.trans (b2.mono b1.size)
  have LT1 : ∀ g, (Value.slice a1 m1 c1).ownBlock = some g → g < w1.heap.size := fun g hg => (owns_lt o1 g hg).2
  have o1 := owns_below o1 b2
  go_wp2_with fail
  refine (I5 _ (h.below b2')).mono ?_
  rintro e w3 ⟨a3, m3, c3, rfl, hm3, o3, b3⟩
  clear I5
  have b3' := b2'.trans (b3.mono b2'.size)
  have o1 := owns_below o1 b3
  have o2 := owns_below o2 b3
  have z1 := b1.size
  have z2 := b2.size
  have z3 := b3.size
  have hsum : m2 + m3 ≤ 4194304 := by omega
  have L1 := owns_lt o1
  have L2 := owns_lt o2
  have D1 : ∀ g, (Value.slice a1 m1 c1).ownBlock = some g → g < w1.heap.size := fun g hg => LT1 g hg
  go_wp2_with (at_builtin; go_must (refine wpList_appX Try.underlying26 Try.underlying26 hi0 hz0 hz1 hz2 rfl (by omega) (by omega) (.tmp 10) (.tmp 12) ?_ ?_ w1.heap.size (.slice a2 m2 c2) m2 (icells K4) a3 m3 c3 (icells K5) ?_ ?_ o2 (owns_cells o3) (icells_one' K5) hsum (by omega) ?_; exact rfl; exact rfl; exact rfl; exact rfl; intro a4 c4 w4 o4 gr4 at4; have oE := own_empty w4 w4.heap.size 2 1 (Nat.le_refl _); have kE : Below w4.heap.size w4 (w4.alloc (.cells #[] 2)) := (Below.refl _ _).alloc (Nat.le_refl _) _))
  have o1 := owns_grown o1 gr4 (fun g hg hk => by have := D1 g hg; have := (L2 g hk).1; omega)
  have b4' := b3'.grown gr4 b3'.size (fun g hg => by have := (L2 g hg).1; omega)
  rw [← icells_append] at o4
  have z4 := b4'.size
  clear o2 o3 gr4 at4 L1 L2 D1 b1 b2 b3 b3' b2'
  generalize K4 ++ K5 = KE at *
  go_loopw [5, 6] (fun q i wr => ∃ (k m : Nat) (a' : Option Addr) (c' : Nat), k ≤ 999 ∧ m ≤ k ∧ i = .int .i64 ((k : Int) + 1) ∧ q = .slice a' m c' ∧ wr.ownsRow w4.heap.size 2 1 (.slice a' m c') m (icells (Ch.losTo rs k)) ∧ Below w4.heap.size w4 wr) (fun _ i _ => 1000 - (intOf i).toNat)
  case atStart => exact ⟨0, 0, _, _, Nat.zero_le _, Nat.le_refl _, rfl, rfl, oE, kE⟩
  case round =>
    clear oE kE
    obtain ⟨k, m, a', c', hk, hmk, rfl, rfl, own, hB⟩ := hrel
    by_cases hlt : k < 999
    · have hle : (k : Int) + 1 ≤ 999 := by omega
      have hge : 0 ≤ (k : Int) + 1 := by omega
      replace HLI := hid (HLI.out ((k : Int) + 1))
      replace HLY := hid (fun h => HLY.out k h)
      replace HLN := hid (fun h => HLN.out k h)
      have C1 := owns_cells (owns_below o1 hB)
      have CE := owns_cells (owns_below o4 hB)
      have IC := fun W hW => amongV_any a1 m1 c1 ((k : Int) + 1) K1 W hW (by omega)
      have IE := fun W hW => amongV_any a4 (m2 + m3) c4 ((k : Int) + 1) KE W hW (by omega)
      generalize Ch.losTo rs k = zs at *
      generalize Ch.Ft.lost (Ch.fate rs ((k : Int) + 1)) = lb at *
      generalize K1.contains ((k : Int) + 1) = cb at *
      generalize KE.contains ((k : Int) + 1) = ce at *
      have i1 : 1000 - (k + 1 + 1) < 1000 - (k + 1) := by omega
      cases cb
      · have HQ := hid (HLN.out (by rw [HLI.out]; rfl))
        clear HLI HLY HLN
        go_wp2_with (go_at_call 53; refine (IC _ C1).mono ?_; rintro e w5 ⟨rfl, hw5⟩; obtain rfl := hw5.symm)
        go_roundw
        case rel => exact ⟨k + 1, m, a', c', by omega, by omega, by go_num, rfl, by rw [HQ.out]; exact own, hB⟩
        case measure => simp [intOf]; omega
      · cases ce
        · have HQ := hid (HLY.out (by rw [HLI.out]; rfl))
          clear HLI HLY HLN
          have kQ : Below wr.heap.size wr (wr.alloc (.cells #[.int .i64 ((k : Int) + 1)] 2)) := (Below.refl _ _).alloc (Nat.le_refl _) _
          have own3 := owns_below own kQ
          have hC3 := new_int wr ((k : Int) + 1) 2
          have hb3 : w4.heap.size ≤ (wr.alloc (.cells #[.int .i64 ((k : Int) + 1)] 2)).heap.size := by have := hB.size; simp; omega
          have b3 := hB.trans (kQ.mono hB.size)
          go_wp2_with (first | (at_builtin; go_must (refine wpList_appX Try.underlying26 Try.underlying26 hi0 hz0 hz1 hz2 rfl (by omega) (by omega) (.tmp 28) (.tmp 30) ?_ ?_ w4.heap.size (.slice a' m c') m (icells zs) _ 1 1 (icells [(k : Int) + 1]) ?_ ?_ own3 hC3 (icells_one' [(k : Int) + 1]) (by omega) hb3 ?_; exact rfl; exact rfl; exact rfl; exact rfl; intro a5 c5 w5 own5 gr5 at5; go_frame)) | (go_at_call 53; first | (refine (IC _ C1).mono ?_; rintro e w5 ⟨rfl, hw5⟩; obtain rfl := hw5.symm; clear IC) | (refine (IE _ CE).mono ?_; rintro e w5 ⟨rfl, hw5⟩; obtain rfl := hw5.symm)))
          go_roundw
          case rel =>
            rw [← icells_append, ← HQ.out] at own5
            exact ⟨k + 1, m + 1, a5, c5, by omega, by omega, by go_num, rfl, own5, b3.grown gr5 b3.size (fun g hg => (owns_lt own3 g hg).1)⟩
          case measure => simp [intOf]; omega
        · have HQ := hid (HLN.out (by rw [HLI.out]; rfl))
          clear HLI HLY HLN
          go_wp2_with (go_at_call 53; first | (refine (IC _ C1).mono ?_; rintro e w5 ⟨rfl, hw5⟩; obtain rfl := hw5.symm; clear IC) | (refine (IE _ CE).mono ?_; rintro e w5 ⟨rfl, hw5⟩; obtain rfl := hw5.symm))
          go_roundw
          case rel => exact ⟨k + 1, m, a', c', by omega, by omega, by go_num, rfl, by rw [HQ.out]; exact own, hB⟩
          case measure => simp [intOf]; omega
    · obtain rfl : k = 999 := by omega
      go_wp2
      go_ret
      exact ⟨a', m, c', rfl, by omega, owns_base own (by omega), b4'.trans (hB.mono b4'.size)⟩

set_option linter.unusedSimpArgs false in
set_option maxRecDepth 20000 in
set_option maxHeartbeats 2000000 in
theorem specLos_any (a : Option Addr) (n cap : Nat) (rs : List Ch.Rec) (w : World) (h : CellsAt w a (n * 7) (rc7 rs)) (hn : n ≤ 1048576) :
    Calls Try.prog 19 #[.slice a n cap] w fun e w' => ∃ a' m c', e = .returned (.agg #[.int .i64 (Ch.losR rs).1, .slice a' m c']) ∧ m ≤ 1048576 ∧ w'.ownsRow w.heap.size 2 1 (.slice a' m c') m (icells (Ch.losR rs).2) ∧ Below w.heap.size w w' := by
  have IA := fun W hW => specRecs_any a n cap rs W hW hn
  have kA : ∀ o, Below w.heap.size w (w.alloc o) := fun o => (Below.refl _ _).alloc (Nat.le_refl _) o
  obtain ⟨c, HC⟩ : ∃ c, Hid (Ch.recsF rs = c) := ⟨_, rfl⟩
  rw [HC.out] at IA
  by_cases h0 : c = 0
  rotate_left
  · have hc : (c != 0) = true := by simpa using h0
    rw [Ch.losR_bad HC.out hc]
    clear HC h0
    go_enter Try.func19, Try.ntmps19
    go_wp2_with fail
    refine (IA _ (h.below (kA _))).mono ?_
    rintro e w1 ⟨rfl, b1⟩
    have hR := block_belowV b1 (heap_alloc_new w _)
    have b1 := below_box b1
    have lz := (Array.getElem?_eq_some_iff.1 hR).1
    obtain ⟨x0, x1, f0, f1⟩ := row2 hR
    go_wp2
    exact bodyPost_ret (v := .agg #[.int .i64 c, .slice none 0 0]) (by simp [results, Try.results19, go_sem, x0, x1]) rfl ⟨none, 0, 0, rfl, by omega, World.ownsRow_nil _ _ _ _, (b1.setCell (p := ⟨w.heap.size, 0, none⟩) (Nat.le_refl _) _).setCell (p := ⟨w.heap.size, 1, none⟩) (Nat.le_refl _) _⟩
  subst h0
  rw [Ch.losR_ok HC.out]
  clear HC
  go_enter Try.func19, Try.ntmps19
  go_wp2_with fail
  refine (IA _ (h.below (kA _))).mono ?_
  rintro e w1 ⟨rfl, b1⟩
  have hR := block_belowV b1 (heap_alloc_new w _)
  have hR0 := hR
  have b1 := below_box b1
  clear IA
  go_wp2_with fail
  refine (specLosers_any a n cap rs _ (h.below b1) hn).mono ?_
  rintro e w2 ⟨a2, m2, c2, rfl, hm2, o2, b2⟩
  have hR := block_belowV b2 hR
  have b2' := b1.trans (b2.mono b1.size)
  obtain ⟨x0, x1, f0, f1⟩ := row2 hR
  have L2 := owns_lt o2
  have z1 := b1.size
  have lz := (Array.getElem?_eq_some_iff.1 hR).1
  have lz1 : w.heap.size < w1.heap.size := (Array.getElem?_eq_some_iff.1 hR0).1
  go_wp2
  refine bodyPost_ret (v := .agg #[.int .i64 0, .slice a2 m2 c2]) (by simp [results, Try.results19, go_sem, x0, x1]) rfl ⟨a2, m2, c2, rfl, by omega, ?_, ?_⟩
  · refine owns_base (base := w1.heap.size) (ownsRow_setCell_below (ownsRow_setCell_below o2 ?_ _) ?_ _) (by omega)
    · show w.heap.size < w1.heap.size; omega
    · show w.heap.size < w1.heap.size; omega
  · exact (b2'.setCell (p := ⟨w.heap.size, 0, none⟩) (Nat.le_refl _) _).setCell (p := ⟨w.heap.size, 1, none⟩) (Nat.le_refl _) _

set_option linter.unusedSimpArgs false in
set_option maxRecDepth 20000 in
set_option maxHeartbeats 2000000 in
theorem implLos_any (a : Option Addr) (n cap : Nat) (rs : List Ch.Rec) (w : World) (h : CellsAt w a (n * 7) (rc7 rs)) (hn : n ≤ 1048576) :
    Calls Try.prog 20 #[.slice a n cap] w fun e w' => ∃ a' m c', e = .returned (.agg #[.int .i64 (Ch.losR rs).1, .slice a' m c']) ∧ m ≤ 1048576 ∧ w'.ownsRow w.heap.size 2 1 (.slice a' m c') m (icells (Ch.losR rs).2) ∧ Below w.heap.size w w' := by
  have IA := fun W hW => implRecs_any a n cap rs W hW hn
  have kA : ∀ o, Below w.heap.size w (w.alloc o) := fun o => (Below.refl _ _).alloc (Nat.le_refl _) o
  obtain ⟨c, HC⟩ : ∃ c, Hid (Ch.recsF rs = c) := ⟨_, rfl⟩
  rw [HC.out] at IA
  by_cases h0 : c = 0
  rotate_left
  · have hc : (c != 0) = true := by simpa using h0
    rw [Ch.losR_bad HC.out hc]
    clear HC h0
    go_enter Try.func20, Try.ntmps20
    go_wp2_with fail
    refine (IA _ (h.below (kA _))).mono ?_
    rintro e w1 ⟨rfl, b1⟩
    have hR := block_belowV b1 (heap_alloc_new w _)
    have b1 := below_box b1
    have lz := (Array.getElem?_eq_some_iff.1 hR).1
    obtain ⟨x0, x1, f0, f1⟩ := row2 hR
    go_wp2
    exact bodyPost_ret (v := .agg #[.int .i64 c, .slice none 0 0]) (by simp [results, Try.results20, go_sem, x0, x1]) rfl ⟨none, 0, 0, rfl, by omega, World.ownsRow_nil _ _ _ _, (b1.setCell (p := ⟨w.heap.size, 0, none⟩) (Nat.le_refl _) _).setCell (p := ⟨w.heap.size, 1, none⟩) (Nat.le_refl _) _⟩
  subst h0
  rw [Ch.losR_ok HC.out]
  have HZ := hid (Ch.recsF_zero HC.out)
  have HL := h.len7
  have h8 : n ≤ 800 := by have h1 := HZ.out.1; have h2 := HL.out; omega
  have HM := hid (fun t => Ch.losL_mem rs t)
  have HS := hid (Ch.losL_sorted rs)
  clear HC
  go_enter Try.func20, Try.ntmps20
  go_wp2_with fail
  refine (IA _ (h.below (kA _))).mono ?_
  rintro e w1 ⟨rfl, b1⟩
  have hR := block_belowV b1 (heap_alloc_new w _)
  have hR0 := hR
  have b1 := below_box b1
  clear IA
  go_wp2_with fail
  refine (fates_any a n cap rs _ (h.below b1) h8 HZ.out.2).mono ?_
  rintro e w2 ⟨N, D, rfl, hN, om, fm, b2⟩
  have hR := block_belowV b2 hR
  have b2' := b1.trans (b2.mono b1.size)
  have hml : ∀ t, t ∈ Ch.losL rs ↔ (Ch.fate rs t).lost = true := fun t => by
    rw [HM.out t]
    constructor
    · exact fun h => h.2.2
    · intro hl
      have hh : Maps.has D (kF t) = true := by
        cases hb : Maps.has D (kF t)
        · rw [fm.none hb] at hl
          simp [Ch.Ft.lost, Ch.Ft.zero] at hl
        · rfl
      exact ⟨(fm.has t hh).1, (fm.has t hh).2, hl⟩
  have hcon := losers_any w1.heap.size N D (Ch.fate rs) (Ch.losL rs) w2 om fm (by omega) HS.out hml
  clear HM HS hml fm om
  go_wp2_with fail
  refine hcon.mono ?_
  rintro e w3 ⟨a2, m2, c2, rfl, hm2, o2, b3⟩
  clear hcon
  have hR := block_belowV b3 hR
  have b3' := b2'.trans (b3.mono b2'.size)
  obtain ⟨x0, x1, f0, f1⟩ := row2 hR
  have L2 := owns_lt o2
  have z1 := b1.size
  have z2 := b2.size
  have lz := (Array.getElem?_eq_some_iff.1 hR).1
  have lz1 : w.heap.size < w1.heap.size := (Array.getElem?_eq_some_iff.1 hR0).1
  go_wp2
  refine bodyPost_ret (v := .agg #[.int .i64 0, .slice a2 m2 c2]) (by simp [results, Try.results20, go_sem, x0, x1]) rfl ⟨a2, m2, c2, rfl, by omega, ?_, ?_⟩
  · refine owns_base (base := w2.heap.size) (ownsRow_setCell_below (ownsRow_setCell_below o2 ?_ _) ?_ _) (by omega)
    · show w.heap.size < w2.heap.size; omega
    · show w.heap.size < w2.heap.size; omega
  · exact (b3'.setCell (p := ⟨w.heap.size, 0, none⟩) (Nat.le_refl _) _).setCell (p := ⟨w.heap.size, 1, none⟩) (Nat.le_refl _) _

end Go.Proofs.Ytoijjjckdggglaa


/- l13Redo and RedoRows of the model. -/
namespace Go.Proofs.Ytoijjjckdggglaa
open Go.RowKit

theorem Ch.fold_out : ∀ (l : List Ch.Row) (S : Ch.Sl) (q : Int), (∀ r ∈ l, r.k ≠ q) → (l.foldl (fun S r => S.set r.k (some r.v)) S) q = S q := by
  intro l
  induction l with
  | nil => intro S q _; rfl
  | cons a l ih =>
    intro S q h
    rw [List.foldl_cons, ih _ _ (fun r hr => h r (List.mem_cons_of_mem _ hr))]
    simp only [Ch.Sl.set]
    rw [if_neg (fun e => h a List.mem_cons_self e.symm)]
theorem Ch.fold_in : ∀ (l : List Ch.Row) (S : Ch.Sl), l.Pairwise (fun a b => a.k < b.k) → ∀ r ∈ l, (l.foldl (fun S r => S.set r.k (some r.v)) S) r.k = some r.v := by
  intro l
  induction l with
  | nil => intro S _ r hr; simp at hr
  | cons a l ih =>
    intro S hp r hr
    have p1 := List.pairwise_cons.1 hp
    rw [List.foldl_cons]
    rcases List.mem_cons.1 hr with rfl | hr
    · rw [Ch.fold_out _ _ _ (fun x hx => by have := p1.1 x hx; omega)]
      simp [Ch.Sl.set]
    · exact ih _ p1.2 r hr
theorem Ch.filter_same : ∀ (l : List Ch.Row), ¬ (Ch.noGhost l).length < l.length → ∀ r ∈ l, r.g = false := by
  intro l
  induction l with
  | nil => intro _ r hr; simp at hr
  | cons a l ih =>
    intro h r hr
    have hle := Ch.noGhost_len l
    unfold Ch.noGhost at h hle
    rw [List.filter_cons] at h
    cases hg : a.g
    · rw [hg] at h
      simp only [Bool.not_false, if_true, List.length_cons] at h
      rcases List.mem_cons.1 hr with rfl | hr
      · exact hg
      · exact ih (by unfold Ch.noGhost; omega) r hr
    · rw [hg] at h
      simp only [Bool.not_true, if_neg (by simp : ¬ false = true), List.length_cons] at h
      exfalso; omega
/-- A base without a fault is the rows of what it says. -/
theorem Ch.base_rows {base : List Ch.Row} (h : Ch.baseF base = 0) : Ch.rowsS (Ch.baseTo base base.length) = base := by
  obtain ⟨h1, h2, h3⟩ := Ch.base_zero h
  have hri : Ch.rise base = 0 := by
    have he : Ch.eachF base = 0 := Ch.each_zero (fun r hr => by
      obtain ⟨i, hi, rfl⟩ := List.getElem_of_mem hr
      have := h3 i hi
      simpa [List.getD, hi] using this)
    rw [Ch.mapF_rise (by omega) he] at h1
    exact h1
  have hp := (Ch.rise_iff base none).1 hri
  have hg : ∀ r ∈ base, r.g = false := Ch.filter_same base (fun hl => by rw [Ch.base_ghost h1 hl] at h; omega)
  refine Ch.rows_ext _ _ (Ch.rowsTo_sorted _ 100) hp.2.1 (fun r => ?_)
  rw [Ch.rowsS, Ch.rowsTo_mem]
  have hin := Ch.fold_in base (fun _ => none) hp.2.1
  constructor
  · rintro ⟨i, hi, hk, hs, hgr⟩
    unfold Ch.baseTo at hs
    rw [List.take_length] at hs
    by_cases he : ∃ x ∈ base, x.k = (i : Int)
    · obtain ⟨x, hx, hxk⟩ := he
      have h5 := hin x hx
      rw [hxk, hs] at h5
      have : r = x := by
        obtain ⟨k, v, g⟩ := r
        obtain ⟨k', v', g'⟩ := x
        have h6 := hg _ hx
        simp only [Option.some.injEq] at hk hxk h5 hgr h6
        rw [hk, hxk, h5, hgr, h6]
      rw [this]; exact hx
    · rw [Ch.fold_out _ _ _ (fun x hx e => he ⟨x, hx, e⟩)] at hs
      simp at hs
  · intro hr
    have hf := Ch.row_key (hp.1 r hr)
    refine ⟨r.k.toNat, by omega, by omega, ?_, hg r hr⟩
    rw [show ((r.k.toNat : Nat) : Int) = r.k by omega]
    unfold Ch.baseTo
    rw [List.take_length]
    exact hin r hr
theorem Ch.setR_rows (S : Ch.Sl) {ky : Int} (h : 0 ≤ ky ∧ ky ≤ 99) (hs : Bool) (v : Int) : Ch.setR (Ch.rowsS S) ky hs v = Ch.rowsS (S.set ky (Ch.optV hs v)) := by
  cases hs
  · exact Ch.rowsS_drop S ky
  · exact Ch.rowsS_into S h.1 h.2
theorem Ch.rowsS_len (S : Ch.Sl) : (Ch.rowsS S).length ≤ 100 := Ch.rowsTo_len S 100
theorem Ch.los_has (rs : List Ch.Rec) {t : Int} (h : 1 ≤ t ∧ t ≤ 999) : (Ch.losL rs).contains t = (Ch.fate rs t).lost := by
  rw [Bool.eq_iff_iff, List.contains_iff_mem, Ch.losL_mem]
  exact ⟨fun h => h.2.2, fun hl => ⟨h.1, h.2, hl⟩⟩
theorem backs_at (H : Nat) (a : Option Addr) (n cap : Nat) (rs : List Ch.Rec) (w : World) (hH : w.heap.size = H) (h : CellsAt w a (n * 7) (rc7 rs)) (hn : n ≤ 800) (hf : ∀ k, k < rs.length → (rs.getD k Ch.Rec.zero).fault = 0) :
    Calls Try.prog 52 #[.slice a n cap] w fun e w' => e = .returned (.slice (some ⟨H, 0, none⟩) 1000 1000) ∧ w'.ownsRow H 2 1 (.slice (some ⟨H, 0, none⟩) 1000 1000) 1000 (icells (Ch.bkL (fun t => (Ch.fate rs t).bk))) ∧ Below w.heap.size w w' := by
  subst hH
  exact backs_any a n cap rs w h hn hf
theorem owns_lenR {w : World} {B : Nat} {v : Value} {m : Nat} {zs : List Ch.Row} (h : w.ownsRow B 50 3 v m (rcells zs)) : m = zs.length := by
  have := h.1
  rw [rcells_len] at this
  omega

set_option linter.unusedSimpArgs false in
set_option maxRecDepth 20000 in
set_option maxHeartbeats 4000000 in
theorem specRedo1_any (a1 : Option Addr) (n1 c1 : Nat) (base : List Ch.Row) (a2 : Option Addr) (n2 c2 : Nat) (rs : List Ch.Rec) (w : World) (h1 : CellsAt w a1 (n1 * 3) (rcells base)) (h2 : CellsAt w a2 (n2 * 7) (rc7 rs)) (HC : Ch.recsF rs = 0) (HD : Ch.baseF base = 0) :
    Calls Try.prog 28 #[.slice a1 n1 c1, .slice a2 n2 c2] w fun e w' => ∃ a3 m3 c3 a4 m4 c4, RedoAt w w' e (0, Ch.losL rs, Ch.rowsS (Ch.endS base rs).s) a3 m3 c3 a4 m4 c4 := by
  have HEN : Hid (Ch.endS base rs = Ch.backTo (fun t => (Ch.fate rs t).lost) ⟨Ch.redoTo (Ch.baseTo base base.length) rs rs.length, fun t => (Ch.fate rs t).bk⟩ rs.reverse) := rfl
  rw [HEN.out]
  clear HEN
  have HZ := hid (Ch.recsF_zero HC)
  have HY := hid (Ch.base_zero HD)
  have HBR := hid (Ch.base_rows HD)
  have HL := h2.len7
  have HL1 := h1.rlen
  have hn8 : n2 ≤ 800 := by have h1 := HZ.out.1; have h2 := HL.out; omega
  have hn24 : n1 ≤ 240 := by have h1 := HY.out.2.1; have h2 := HL1.out; omega
  clear HC HD
  generalize hS0 : Ch.baseTo base base.length = S0 at *
  generalize hS1 : Ch.redoTo S0 rs rs.length = S1 at *
  obtain ⟨i0, hi0, hz0, hz1, hz2⟩ := info_parts Try.info50
  have oE := own_empty (w.alloc (.cells #[.int .i64 0, .slice none 0 0, .slice none 0 0] 29)) (w.heap.size + 1) 50 3 (by simp)
  rw [show (w.alloc (.cells #[.int .i64 0, .slice none 0 0, .slice none 0 0] 29)).heap.size = w.heap.size + 1 by simp] at oE
  have bE : Below w.heap.size w ((w.alloc (.cells #[.int .i64 0, .slice none 0 0, .slice none 0 0] 29)).alloc (.cells #[] 50)) := ((Below.refl _ _).alloc (Nat.le_refl _) _).alloc (by simp) _
  have hC1 := h1.below bE
  have hR : ((w.alloc (.cells #[.int .i64 0, .slice none 0 0, .slice none 0 0] 29)).alloc (.cells #[] 50)).heap[w.heap.size]? = some (.cells #[.int .i64 0, .slice none 0 0, .slice none 0 0] 29 (0, 0)) := block_belowV ((Below.refl _ _).alloc (Nat.le_refl _) _) (heap_alloc_new w _)
  have hbE : w.heap.size + 1 ≤ ((w.alloc (.cells #[.int .i64 0, .slice none 0 0, .slice none 0 0] 29)).alloc (.cells #[] 50)).heap.size := by simp
  have hsE : 0 + n1 ≤ 4194304 := by omega
  go_enter Try.func28, Try.ntmps28
  go_wp2_with (at_builtin; go_must (refine wpList_appX Try.underlying27 Try.underlying27 hi0 hz0 hz1 hz2 rfl (by omega) (by omega) (.tmp 11) (.tmp 12) ?_ ?_ (w.heap.size + 1) (.slice (some ⟨w.heap.size + 1, 0, none⟩) 0 0) 0 [] a1 n1 c1 (rcells base) ?_ ?_ oE hC1 (rcells_oneV _) hsE hbE ?_; exact rfl; exact rfl; exact rfl; exact rfl; intro a3 c3 w1 o1 gr1 at1; simp only [Nat.zero_add, List.nil_append] at o1 ⊢; go_frame))
  have b1 := bE.grown gr1 bE.size (fun g hg => by have := (owns_lt oE g hg).1; omega)
  have hR := block_grownV gr1 hR (own_apartV oE (by omega))
  have hs1 : w.heap.size + 1 ≤ w1.heap.size := Nat.le_trans hbE gr1.size
  rw [← HBR.out] at o1
  clear oE bE hC1 hbE hsE gr1 at1
  go_loopw [5, 6] (fun q i wr => ∃ (k m : Nat) (a' : Option Addr) (c' : Nat), k ≤ n2 ∧ i = .int .i64 k ∧ q = .slice a' m c' ∧ wr.ownsRow (w.heap.size + 1) 50 3 (.slice a' m c') m (rcells (Ch.rowsS (Ch.redoTo S0 rs k))) ∧ wr.heap[w.heap.size]? = some (.cells #[.int .i64 0, .slice none 0 0, .slice none 0 0] 29 (0, 0)) ∧ w.heap.size + 1 ≤ wr.heap.size ∧ Below w.heap.size w wr) (fun _ i _ => n2 - (intOf i).toNat)
  case atStart => exact ⟨0, _, _, _, Nat.zero_le _, rfl, rfl, o1, hR, hs1, b1⟩
  case round =>
    clear hR o1 hs1 b1
    obtain ⟨k, m, a', c', hk, rfl, rfl, own, hR, hsz, hB⟩ := hrel
    have hm := owns_lenR own
    have hm1 : m ≤ 100 := by rw [hm]; exact Ch.rowsS_len _
    clear hm
    by_cases hlt : k < n2
    · have hkl : k < rs.length := by have := HL.out; omega
      have HK := hid (Ch.Rec.fit (HZ.out.2 k hkl)).ky
      have HT := hid (Ch.redoTo_step (S := S0) (rs := rs) hkl)
      have HN := hid (fun hh => Ch.redo1_no (S := Ch.redoTo S0 rs k) (r := rs.getD k Ch.Rec.zero) hh)
      have HYS := hid (fun hh => Ch.redo1_yes (S := Ch.redoTo S0 rs k) (r := rs.getD k Ch.Rec.zero) hh)
      obtain ⟨b, off, rfl, q0, q1, q2, q3, q4, q5, q6⟩ := (h2.below hB).rec hlt
      have hbl := lt_of_cell q0
      generalize rs.getD k Ch.Rec.zero = r at *
      obtain ⟨rk, rt, ry, rh, ro, rx, rn⟩ := r
      simp only at q0 q1 q2 q3 q4 q5 q6 HK HN HYS
      have hkk : 0 ≤ ry ∧ ry ≤ 99 := HK.out
      have HSR := hid (Ch.setR_rows (Ch.redoTo S0 rs k) hkk rx rn)
      have IT := fun W => l2Sets_any rk W
      cases hs : Ch.sets rk
      · rw [hs] at IT
        replace HN := hid (HT.out.trans (HN.out hs))
        clear HYS HT hs HSR
        go_wp2_with (go_at_call 50; refine (IT _).mono ?_; rintro e w1 ⟨rfl, hw1⟩; obtain rfl := hw1.symm)
        go_roundw
        case rel => exact ⟨k + 1, m, a', c', by omega, by go_num, rfl, by rw [HN.out]; exact own, hR, hsz, hB⟩
        case measure => simp [intOf]; omega
      · rw [hs] at IT
        replace HYS := hid (HT.out.trans (HYS.out hs))
        clear HN HT hs
        have i1 : (k : Int) < (n2 : Int) := by omega
        go_wp2_with (go_at_call 50; refine (IT _).mono ?_; rintro e w1 ⟨rfl, hw1⟩; obtain rfl := hw1.symm)
        clear IT
        refine wp_region_noPanic ?_
        refine wp_region_held_drew (S := fun W' => W'.cell? ⟨b, off + k * 7 + 2, none⟩ = some (.int .i64 ry) ∧ W'.cell? ⟨b, off + k * 7 + 5, none⟩ = some (.bool rx) ∧ W'.cell? ⟨b, off + k * 7 + 6, none⟩ = some (.int .i64 rn) ∧ Below wr.heap.size wr W') (by kernel_rfl) (⟨q2, q5, q6, (Below.refl _ _).drew⟩) (fun hH => ?_)
        refine hTake (i := 0) (v := ?_) rfl (by kernel_rfl) (by kernel_rfl) (by kernel_rfl) (by rfl) ?_ hH ?_
        rotate_left
        · intro W hW; (try dsimp only at hW); go_simp <;> with_reducible rfl
        simp only [Act.put, List.setIfInBounds_toArray, List.set_cons_zero, List.set_cons_succ]
        refine hTake (i := 1) (v := ?_) rfl (by kernel_rfl) (by kernel_rfl) (by kernel_rfl) (by rfl) ?_ hH ?_
        rotate_left
        · intro W hW; (try dsimp only at hW); go_simp <;> with_reducible rfl
        simp only [Act.put, List.setIfInBounds_toArray, List.set_cons_zero, List.set_cons_succ]
        refine hTake (i := 2) (v := ?_) rfl (by kernel_rfl) (by kernel_rfl) (by kernel_rfl) (by rfl) ?_ hH ?_
        rotate_left
        · intro W hW; (try dsimp only at hW); go_simp <;> with_reducible rfl
        simp only [Act.put, List.setIfInBounds_toArray, List.set_cons_zero, List.set_cons_succ]
        refine hTake (i := 3) (v := ?_) rfl (by kernel_rfl) (by kernel_rfl) (by kernel_rfl) (by rfl) ?_ hH ?_
        rotate_left
        · intro W hW; (try dsimp only at hW); go_simp <;> with_reducible rfl
        simp only [Act.put, List.setIfInBounds_toArray, List.set_cons_zero, List.set_cons_succ]
        refine hTake (i := 4) (v := ?_) rfl (by kernel_rfl) (by kernel_rfl) (by kernel_rfl) (by rfl) ?_ hH ?_
        rotate_left
        · intro W hW; (try dsimp only at hW); go_simp <;> with_reducible rfl
        simp only [Act.put, List.setIfInBounds_toArray, List.set_cons_zero, List.set_cons_succ]
        refine hTake (i := 5) (v := ?_) rfl (by kernel_rfl) (by kernel_rfl) (by kernel_rfl) (by rfl) ?_ hH ?_
        rotate_left
        · intro W hW; (try dsimp only at hW); go_simp <;> with_reducible rfl
        simp only [Act.put, List.setIfInBounds_toArray, List.set_cons_zero, List.set_cons_succ]
        refine hTake (i := 6) (v := ?_) rfl (by kernel_rfl) (by kernel_rfl) (by kernel_rfl) (by rfl) ?_ hH ?_
        rotate_left
        · intro W hW; (try dsimp only at hW); go_simp <;> with_reducible rfl
        simp only [Act.put, List.setIfInBounds_toArray, List.set_cons_zero, List.set_cons_succ]
        refine hTake (i := 7) (v := ?_) rfl (by kernel_rfl) (by kernel_rfl) (by kernel_rfl) (by rfl) ?_ hH ?_
        rotate_left
        · intro W hW; (try dsimp only at hW); go_simp <;> with_reducible rfl
        simp only [Act.put, List.setIfInBounds_toArray, List.set_cons_zero, List.set_cons_succ]
        refine hTake (i := 8) (v := ?_) rfl (by kernel_rfl) (by kernel_rfl) (by kernel_rfl) (by rfl) ?_ hH ?_
        rotate_left
        · intro W hW; (try dsimp only at hW); go_simp <;> with_reducible rfl
        simp only [Act.put, List.setIfInBounds_toArray, List.set_cons_zero, List.set_cons_succ]
        refine hTake (i := 9) (v := ?_) rfl (by kernel_rfl) (by kernel_rfl) (by kernel_rfl) (by rfl) ?_ hH ?_
        rotate_left
        · intro W hW; (try dsimp only at hW); go_simp <;> with_reducible rfl
        simp only [Act.put, List.setIfInBounds_toArray, List.set_cons_zero, List.set_cons_succ]
        refine hTake (i := 10) (v := ?_) rfl (by kernel_rfl) (by kernel_rfl) (by kernel_rfl) (by rfl) ?_ hH ?_
        rotate_left
        · intro W hW; (try dsimp only at hW); go_simp <;> with_reducible rfl
        simp only [Act.put, List.setIfInBounds_toArray, List.set_cons_zero, List.set_cons_succ]
        refine hTake (i := 11) (v := ?_) rfl (by kernel_rfl) (by kernel_rfl) (by kernel_rfl) (by rfl) ?_ hH ?_
        rotate_left
        · intro W hW; (try dsimp only at hW); go_simp <;> with_reducible rfl
        simp only [Act.put, List.setIfInBounds_toArray, List.set_cons_zero, List.set_cons_succ]
        refine hTake (i := 12) (v := ?_) rfl (by kernel_rfl) (by kernel_rfl) (by kernel_rfl) (by rfl) ?_ hH ?_
        rotate_left
        · intro W hW; (try dsimp only at hW); go_simp <;> with_reducible rfl
        simp only [Act.put, List.setIfInBounds_toArray, List.set_cons_zero, List.set_cons_succ]
        refine hTake (i := 13) (v := ?_) rfl (by kernel_rfl) (by kernel_rfl) (by kernel_rfl) (by rfl) ?_ hH ?_
        rotate_left
        · intro W hW; (try dsimp only at hW); go_simp <;> with_reducible rfl
        simp only [Act.put, List.setIfInBounds_toArray, List.set_cons_zero, List.set_cons_succ]
        refine hTake (i := 14) (v := ?_) rfl (by kernel_rfl) (by kernel_rfl) (by kernel_rfl) (by rfl) ?_ hH ?_
        rotate_left
        · intro W hW; (try dsimp only at hW); go_simp <;> with_reducible rfl
        simp only [Act.put, List.setIfInBounds_toArray, List.set_cons_zero, List.set_cons_succ]
        refine hTake (i := 15) (v := ?_) rfl (by kernel_rfl) (by kernel_rfl) (by kernel_rfl) (by rfl) ?_ hH ?_
        rotate_left
        · intro W hW; (try dsimp only at hW); go_simp <;> with_reducible rfl
        simp only [Act.put, List.setIfInBounds_toArray, List.set_cons_zero, List.set_cons_succ]
        refine wpAnyH_ready (rs := [16]) (by kernel_rfl) (by simp) ?_
        refine AllReadyH.cons rfl (fun K hK => ?_) AllReadyH.nil
        go_simp
        refine (specSet_any a' m c' ry rx rn _ _ (owns_cells (owns_below own hH.2.2.2)) (by omega)).mono ?_
        rintro e w2 ⟨a5, m5, c5, rfl, o5, b5⟩
        rw [HSR.out] at o5
        have b5' := hH.2.2.2.trans (b5.mono hH.2.2.2.size)
        have o5 := owns_base (base' := wr.heap.size) o5 hH.2.2.2.size
        go_wp2_with fail
        refine hK.out _ _ ?_ (fun hH => ?_)
        · exact ⟨keep_cell b5 hH.1, keep_cell b5 hH.2.1, keep_cell b5 hH.2.2.1, b5'⟩
        clear hK K
        refine hTake (i := 17) (v := ?_) rfl (by kernel_rfl) (by kernel_rfl) (by kernel_rfl) (by rfl) ?_ hH ?_
        rotate_left
        · intro W hW; (try dsimp only at hW); go_simp <;> with_reducible rfl
        simp only [Act.put, List.setIfInBounds_toArray, List.set_cons_zero, List.set_cons_succ]
        refine wpAnyH_done (by kernel_rfl) ?_ _
        refine NoPanic.normal ?_
        have hm5 := owns_lenR o5
        have hm6 : m5 ≤ 100 := by rw [hm5]; exact Ch.rowsS_len _
        have hR := block_belowV b5' hR
        have b6 := hB.trans (b5'.mono hB.size)
        have hs6 : w.heap.size + 1 ≤ w2.heap.size := Nat.le_trans hsz b5'.size
        have o5 := owns_base (base' := w.heap.size + 1) o5 hsz
        clear hm5 hH
        go_wp2
        go_roundw
        case rel => exact ⟨k + 1, m5, a5, c5, by omega, by go_num, rfl, by rw [HYS.out]; exact o5, hR, hs6, b6⟩
        case measure => simp [intOf]; omega
    · obtain rfl : k = n2 := by omega
      have HKL : Hid (k = rs.length) := HL.out
      rw [HKL.out, hS1] at own
      generalize wr = wA at *
      clear hS1 HBR HY
      have LR := owns_lt own
      have IC := fun W hW => specLosers_any a2 k c2 rs W hW (by omega)
      go_wp2_with fail
      refine (IC _ (h2.below hB)).mono ?_
      rintro e w2 ⟨a6, m6, c6, rfl, hm6, o6, b2⟩
      clear IC
      have b2' := hB.trans (b2.mono hB.size)
      have own := owns_below own b2
      have hR := block_belowV b2 hR
      have L6 := owns_lt o6
      have z2 := b2.size
      have k7 : Below w2.heap.size w2 (w2.alloc (.cells #[.int .i64 0, .slice a6 m6 c6, .slice none 0 0] 29)) := (Below.refl _ _).alloc (Nat.le_refl _) _
      have hX := heap_alloc_new w2 (.cells #[.int .i64 0, .slice a6 m6 c6, .slice none 0 0] 29)
      have b7' := b2'.trans (k7.mono b2'.size)
      have hCb := backs_at (w2.heap.size + 1) a2 k c2 rs (w2.alloc (.cells #[.int .i64 0, .slice a6 m6 c6, .slice none 0 0] 29)) (by simp) (h2.below b7') hn8 HZ.out.2
      have own := owns_below own k7
      have o6 := owns_below o6 k7
      have hR := block_belowV k7 hR
      go_wp2_with fail
      refine hCb.mono ?_
      rintro e w3 ⟨rfl, o7, b3⟩
      clear hCb
      have own := owns_below own b3
      have o6 := owns_below o6 b3
      have hR := block_belowV b3 hR
      have hX := block_belowV b3 hX
      have b3' := b7'.trans (b3.mono b7'.size)
      have z3 := (owns_lt o7 _ rfl).2
      have ap0 : ∀ g, (Value.slice a' m c').ownBlock = some g → g < wA.heap.size ∨ w2.heap.size + 2 ≤ g := fun g hg => .inl (LR g hg).2
      have bS : ∀ t, 0 ≤ (Ch.Bs.mk S1 (fun t => (Ch.fate rs t).bk)).b t ∧ (Ch.Bs.mk S1 (fun t => (Ch.fate rs t).bk)).b t ≤ 800 := fun t => by have h1 := Ch.fate_bk rs t; have h2 := HZ.out.1; simp only; omega
      have HBK := hid (fun l => Ch.backTo_b (L := fun t => (Ch.fate rs t).lost) (m := 800) l bS)
      clear bS b2 b3 k7 LR
      have HD0 : Hid ((rs.drop k).reverse = []) := by show _ = _; rw [HKL.out]; simp
      go_wp2
      go_loopw [5, 9] (fun q i wq => ∃ (j m : Nat) (a' : Option Addr) (c' : Nat), j ≤ k ∧ m ≤ 100 ∧ i = .int .i64 ((j : Int) - 1) ∧ q = .slice a' m c' ∧ wq.ownsRow (w.heap.size + 1) 50 3 (.slice a' m c') m (rcells (Ch.rowsS (Ch.backTo (fun t => (Ch.fate rs t).lost) ⟨S1, fun t => (Ch.fate rs t).bk⟩ (rs.drop j).reverse).s)) ∧ wq.ownsRow (w2.heap.size + 1) 2 1 (.slice (some ⟨w2.heap.size + 1, 0, none⟩) 1000 1000) 1000 (icells (Ch.bkL (Ch.backTo (fun t => (Ch.fate rs t).lost) ⟨S1, fun t => (Ch.fate rs t).bk⟩ (rs.drop j).reverse).b)) ∧ (∀ g, (Value.slice a' m c').ownBlock = some g → g < wA.heap.size ∨ w2.heap.size + 2 ≤ g) ∧ wq.ownsRow wA.heap.size 2 1 (.slice a6 m6 c6) m6 (icells (Ch.losL rs)) ∧ wq.heap[w2.heap.size]? = some (.cells #[.int .i64 0, .slice a6 m6 c6, .slice none 0 0] 29 (0, 0)) ∧ wq.heap[w.heap.size]? = some (.cells #[.int .i64 0, .slice none 0 0, .slice none 0 0] 29 (0, 0)) ∧ w2.heap.size + 2 ≤ wq.heap.size ∧ Below w.heap.size w wq) (fun _ i _ => (intOf i + 1).toNat)
      case atStart => exact ⟨k, m, a', c', Nat.le_refl _, hm1, by go_num, rfl, by rw [HD0.out]; exact own, by rw [HD0.out]; exact o7, ap0, o6, hX, hR, by omega, b3'⟩
      case round =>
        clear own o7 ap0 o6 hX hR b3' hm1
        obtain ⟨j, m, a', c', hj, hm1, rfl, rfl, own, o7, ap, o6, hX, hR, hs9, hB9⟩ := hrel
        cases j with
        | zero =>
          have e0 : ((0 : Nat) : Int) - 1 = -1 := rfl
          rw [e0]
          rw [List.drop_zero] at own
          obtain ⟨x0, x1, x2, f0, f1, f2⟩ := row3V hX
          obtain ⟨y0, y1, y2, g0, g1, g2⟩ := row3V hR
          have lx := lt_of_cell x0
          have ly := lt_of_cell y0
          have nexy : ¬ w2.heap.size = w.heap.size := by omega
          have neyx : ¬ w.heap.size = w2.heap.size := by omega
          go_wp2
          refine bodyPost_ret (v := .agg #[.int .i64 0, .slice a6 m6 c6, .slice a' m c']) (by simp [results, Try.results28, go_sem, x0, x1, x2, y0, y1, y2, nexy, neyx]) rfl ⟨a6, m6, c6, a', m, c', rfl, by omega, by omega, ?_, ?_, ?_, ?_⟩
          · have o := owns_grown o6 (gr_setW (s := w2.heap.size) (o := 2) (v := .slice a' m c')) (fun g hg hk => by have := L6 g hg; cases hk; omega)
            refine owns_base (base := wA.heap.size) (ownsRow_setCell_below (ownsRow_setCell_below (ownsRow_setCell_below o ?_ _) ?_ _) ?_ _) (by omega)
            all_goals (show w.heap.size < wA.heap.size; omega)
          · have o := owns_grown own (gr_setW (s := w2.heap.size) (o := 2) (v := .slice a' m c')) (fun g hg hk => by have := ap g hg; cases hk; omega)
            refine owns_base (base := w.heap.size + 1) (ownsRow_setCell_below (ownsRow_setCell_below (ownsRow_setCell_below o ?_ _) ?_ _) ?_ _) (by omega)
            all_goals (show w.heap.size < w.heap.size + 1; omega)
          · intro g hg hg'
            have h8 := L6 g hg
            have h9 := ap g hg'
            omega
          · exact (((hB9.setCell (p := ⟨w2.heap.size, 2, none⟩) (by show w.heap.size ≤ w2.heap.size; omega) _).setCell (p := ⟨w.heap.size, 0, none⟩) (Nat.le_refl _) _).setCell (p := ⟨w.heap.size, 1, none⟩) (Nat.le_refl _) _).setCell (p := ⟨w.heap.size, 2, none⟩) (Nat.le_refl _) _
        | succ j =>
          have e1 : ((j + 1 : Nat) : Int) - 1 = (j : Int) := by omega
          rw [e1]
          have hjl : j < rs.length := by have := HL.out; omega
          have HT := hid (Ch.Rec.fit (HZ.out.2 j hjl))
          have HD := hid (Ch.drop_rev hjl)
          have HB2 := hid (HBK.out (rs.drop (j + 1)).reverse)
          have HST : Hid ((Ch.backTo (fun t => (Ch.fate rs t).lost) ⟨S1, fun t => (Ch.fate rs t).bk⟩ (rs.drop j).reverse) = Ch.back1 (fun t => (Ch.fate rs t).lost) (Ch.backTo (fun t => (Ch.fate rs t).lost) ⟨S1, fun t => (Ch.fate rs t).bk⟩ (rs.drop (j + 1)).reverse) (rs.getD j Ch.Rec.zero)) := by show _ = _; rw [HD.out, Ch.backTo_snoc]
          obtain ⟨b, off, rfl, q0, q1, q2, q3, q4, q5, q6⟩ := (h2.below hB9).rec (k := j) (by omega)
          have hbl := lt_of_cell q0
          have hbl2 : b < w.heap.size := lt_of_cells7 h2 (by omega) b off rfl
          generalize rs.getD j Ch.Rec.zero = r at *
          obtain ⟨kd, tx, ky, hd, ol, hs, nw⟩ := r
          simp only at q0 q1 q2 q3 q4 q5 q6
          have htx : 1 ≤ tx ∧ tx ≤ 999 := HT.out.tx
          have hky : 0 ≤ ky ∧ ky ≤ 99 := HT.out.ky
          have HLH := hid (Ch.los_has rs htx)
          have HSK := hid (fun hh => HST.out.trans (Ch.back_skip (r := ⟨kd, tx, ky, hd, ol, hs, nw⟩) hh))
          have HSL := hid (fun hh h0 => HST.out.trans (Ch.back_less (r := ⟨kd, tx, ky, hd, ol, hs, nw⟩) hh h0))
          have HSS := hid (fun hh h0 => HST.out.trans (Ch.back_set (r := ⟨kd, tx, ky, hd, ol, hs, nw⟩) hh h0))
          simp only at HSK HSL HSS
          clear HST HD HT
          generalize hst2 : (Ch.backTo (fun t => (Ch.fate rs t).lost) ⟨S1, fun t => (Ch.fate rs t).bk⟩ (rs.drop (j + 1)).reverse) = st2 at *
          generalize hst1 : (Ch.backTo (fun t => (Ch.fate rs t).lost) ⟨S1, fun t => (Ch.fate rs t).bk⟩ (rs.drop j).reverse) = st1 at *
          have HSR := hid (Ch.setR_rows st2.s hky hd ol)
          have kW : Below wr.heap.size wr (wr.alloc (.cells #[.int .i64 kd, .int .i64 tx, .int .i64 ky, .bool hd, .int .i64 ol, .bool hs, .int .i64 nw] 54)) := (Below.refl _ _).alloc (Nat.le_refl _) _
          have own1 := owns_below own kW
          have o71 := owns_below o7 kW
          have o61 := owns_below o6 kW
          have hX1 := block_belowV kW hX
          have hR1 := block_belowV kW hR
          have b91 := hB9.trans (kW.mono hB9.size)
          have z91 : w2.heap.size + 2 ≤ (wr.alloc (.cells #[.int .i64 kd, .int .i64 tx, .int .i64 ky, .bool hd, .int .i64 ol, .bool hs, .int .i64 nw] 54)).heap.size := by simp; omega
          obtain ⟨x0, x1, x2, f0, f1, f2⟩ := row3V hX
          have lx := lt_of_cell x0
          have IA := fun W hW => amongV_any a6 m6 c6 tx (Ch.losL rs) W hW (by omega)
          rw [HLH.out] at IA
          have hj0 : (0 : Int) ≤ (j : Int) := by omega
          cases hk2 : (kd != 2)
          rotate_left
          · have HQ := hid (HSK.out (by rw [hk2]; rfl))
            clear HSK HSL HSS IA
            go_wp2
            go_roundw
            case rel => exact ⟨j, m, a', c', by omega, hm1, by go_num, rfl, by rw [hst1, HQ.out]; exact own1, by rw [hst1, HQ.out]; exact o71, ap, o61, hX1, hR1, z91, b91⟩
            case measure => simp [intOf]
          · have hh : ∀ b, (Ch.fate rs tx).lost = b → (kd != 2 || !(Ch.fate rs tx).lost) = !b := fun b hb => by rw [hk2, hb]; rfl
            generalize hlb : (Ch.fate rs tx).lost = lb at *
            cases lb
            · have HQ := hid (HSK.out (hh false rfl))
              clear HSK HSL HSS hh
              go_wp2_with (go_at_call 53; refine (IA _ (owns_cells o61)).mono ?_; rintro e w5 ⟨rfl, hw5⟩; obtain rfl := hw5.symm)
              go_roundw
              case rel => exact ⟨j, m, a', c', by omega, hm1, by go_num, rfl, by rw [hst1, HQ.out]; exact own1, by rw [hst1, HQ.out]; exact o71, ap, o61, hX1, hR1, z91, b91⟩
              case measure => simp [intOf]
            · obtain ⟨t, rfl⟩ : ∃ t : Nat, tx = t := ⟨tx.toNat, by omega⟩
              have ht : t < 1000 := by omega
              have HB3 := hid (HB2.out t)
              have c0 := o71.cellAt t (by simp [icells_len, Ch.bkL_len]; omega)
              have e0 : (icells (Ch.bkL st2.b))[t]? = some (.int .i64 (st2.b t)) := by simp [icells, Ch.bkL, ht]
              rw [e0] at c0
              have g0 := o71.frozenAt t
              have hfn : 0 ≤ st2.b t ∧ st2.b t ≤ 800 := HB3.out
              by_cases h0 : 0 < st2.b t
              · have HQ := hid (HSL.out (hh true rfl) h0)
                have hst := o71.stored t (.int .i64 (st2.b t - 1))
                have efn : (fun q => if q = (t : Int) then st2.b q - 1 else st2.b q) = fun q => if q = (t : Int) then st2.b t - 1 else st2.b q := by
                  funext q
                  by_cases e : q = (t : Int)
                  · rw [if_pos e, if_pos e, e]
                  · rw [if_neg e, if_neg e]
                rw [icells_set, Ch.bkL_set _ ht, ← efn] at hst
                have o72 := hst.1
                have gr2 := hst.2
                have own2 := owns_grown own1 gr2 (fun g hg hk => by have := ap g hg; cases hk; omega)
                have o62 := owns_grown o61 gr2 (fun g hg hk => by have := L6 g hg; cases hk; omega)
                have hX2 := block_grownV gr2 hX1 (by simp)
                have hR2 := block_grownV gr2 hR1 (by simp; omega)
                have b92 := b91.grown gr2 b91.size (fun g hg => by cases hg; omega)
                have z92 := Nat.le_trans z91 gr2.size
                clear HSK HSL HSS hh e0 HB2 HB3 hst gr2 efn
                generalize st2.b t = fn at *
                go_wp2_with (go_at_call 53; refine (IA _ (owns_cells o61)).mono ?_; rintro e w5 ⟨rfl, hw5⟩; obtain rfl := hw5.symm)
                go_roundw
                case rel => exact ⟨j, m, a', c', by omega, hm1, by go_num, rfl, by rw [hst1, HQ.out]; exact own2, by rw [hst1, HQ.out]; exact o72, ap, o62, hX2, hR2, z92, b92⟩
                case measure => simp [intOf]
              · have HQ := hid (HSS.out (hh true rfl) h0)
                have IS := fun W hW => specSet_any a' m c' ky hd ol (Ch.rowsS st2.s) W hW (by omega)
                rw [HSR.out] at IS
                clear HSK HSL HSS hh e0 HB2 HB3
                generalize hfn2 : st2.b t = fn at *
                go_wp2_with (first | (go_at_call 53; refine (IA _ (owns_cells o61)).mono ?_; rintro e w5 ⟨rfl, hw5⟩; obtain rfl := hw5.symm) | (go_at_call 51; refine (IS _ (owns_cells own1)).mono ?_; rintro e w6 ⟨a5, m5, c5, rfl, o5, b5⟩))
                have hm5 : m5 ≤ 100 := by rw [owns_lenR o5]; exact Ch.rowsS_len _
                have ap5 : ∀ g, (Value.slice a5 m5 c5).ownBlock = some g → g < wA.heap.size ∨ w2.heap.size + 2 ≤ g := fun g hg => .inr (Nat.le_trans z91 (owns_lt o5 g hg).1)
                have o5 := owns_base (base' := w.heap.size + 1) o5 (Nat.le_trans (by omega) z91)
                have o72 := owns_below o71 b5
                have o62 := owns_below o61 b5
                have hX2 := block_belowV b5 hX1
                have hR2 := block_belowV b5 hR1
                have b92 := b91.trans (b5.mono b91.size)
                have z92 := Nat.le_trans z91 b5.size
                go_roundw
                case rel => exact ⟨j, m5, a5, c5, by omega, hm5, by go_num, rfl, by rw [hst1, HQ.out]; exact o5, by rw [hst1, HQ.out]; exact o72, ap5, o62, hX2, hR2, z92, b92⟩
                case measure => simp [intOf]
end Go.Proofs.Ytoijjjckdggglaa


/- RedoRows of the model; what the laws do with its answer. -/
namespace Go.Proofs.Ytoijjjckdggglaa
open Go.RowKit

set_option linter.unusedSimpArgs false in
set_option maxRecDepth 20000 in
set_option maxHeartbeats 4000000 in
theorem specRedo_any (a1 : Option Addr) (n1 c1 : Nat) (base : List Ch.Row) (a2 : Option Addr) (n2 c2 : Nat) (rs : List Ch.Rec) (w : World) (h1 : CellsAt w a1 (n1 * 3) (rcells base)) (h2 : CellsAt w a2 (n2 * 7) (rc7 rs)) (hn1 : n1 ≤ 1048576) (hn2 : n2 ≤ 1048576) :
    Calls Try.prog 8 #[.slice a1 n1 c1, .slice a2 n2 c2] w fun e w' => ∃ a3 m3 c3 a4 m4 c4, RedoAt w w' e (Ch.redoR base rs) a3 m3 c3 a4 m4 c4 := by
  have IA := fun W hW => specRecs_any a2 n2 c2 rs W hW hn2
  have IB := fun W hW => specBase_any a1 n1 c1 base W hW hn1
  have kA : ∀ o, Below w.heap.size w (w.alloc o) := fun o => (Below.refl _ _).alloc (Nat.le_refl _) o
  obtain ⟨c, HC⟩ : ∃ c, Hid (Ch.recsF rs = c) := ⟨_, rfl⟩
  rw [HC.out] at IA
  by_cases h0 : c = 0
  rotate_left
  · have hc : (c != 0) = true := by simpa using h0
    rw [Ch.redoR_bad HC.out hc]
    clear HC h0 IB
    go_enter Try.func8, Try.ntmps8
    go_wp2_with fail
    refine (IA _ (h2.below (kA _))).mono ?_
    rintro e w1 ⟨rfl, b1⟩
    have hR := block_belowV b1 (heap_alloc_new w _)
    have b1 := below_box b1
    have lz := (Array.getElem?_eq_some_iff.1 hR).1
    obtain ⟨x0, x1, x2, f0, f1, f2⟩ := row3V hR
    go_wp2
    exact bodyPost_ret (v := .agg #[.int .i64 c, .slice none 0 0, .slice none 0 0]) (by simp [results, Try.results8, go_sem, x0, x1, x2]) rfl ⟨none, 0, 0, none, 0, 0, redo_code b1⟩
  subst h0
  obtain ⟨d, HD⟩ : ∃ d, Hid (Ch.baseF base = d) := ⟨_, rfl⟩
  rw [HD.out] at IB
  by_cases h0 : d = 0
  rotate_left
  · have hc : (d != 0) = true := by simpa using h0
    rw [Ch.redoR_base HC.out HD.out hc]
    clear HC HD h0
    go_enter Try.func8, Try.ntmps8
    go_wp2_with fail
    refine (IA _ (h2.below (kA _))).mono ?_
    rintro e w1 ⟨rfl, b1⟩
    have hR := block_belowV b1 (heap_alloc_new w _)
    have b1 := below_box b1
    clear IA
    go_wp2_with fail
    refine (IB _ (h1.below b1)).mono ?_
    rintro e w2 ⟨rfl, b2⟩
    have hR := block_belowV b2 hR
    have b2' := b1.trans (b2.mono b1.size)
    have lz := (Array.getElem?_eq_some_iff.1 hR).1
    obtain ⟨x0, x1, x2, f0, f1, f2⟩ := row3V hR
    go_wp2
    exact bodyPost_ret (v := .agg #[.int .i64 d, .slice none 0 0, .slice none 0 0]) (by simp [results, Try.results8, go_sem, x0, x1, x2]) rfl ⟨none, 0, 0, none, 0, 0, redo_code b2'⟩
  subst h0
  rw [Ch.redoR_ok HC.out HD.out]
  have IR := fun W hW1 hW2 => specRedo1_any a1 n1 c1 base a2 n2 c2 rs W hW1 hW2 HC.out HD.out
  generalize Ch.losL rs = L at *
  generalize Ch.rowsS (Ch.endS base rs).s = R at *
  clear HC HD
  go_enter Try.func8, Try.ntmps8
  go_wp2_with fail
  refine (IA _ (h2.below (kA _))).mono ?_
  rintro e w1 ⟨rfl, b1⟩
  have hR := block_belowV b1 (heap_alloc_new w _)
  have lz1 := (Array.getElem?_eq_some_iff.1 hR).1
  have b1 := below_box b1
  clear IA
  go_wp2_with fail
  refine (IB _ (h1.below b1)).mono ?_
  rintro e w2 ⟨rfl, b2⟩
  have hR := block_belowV b2 hR
  have b2' := b1.trans (b2.mono b1.size)
  have z2 := b2.size
  clear IB
  go_wp2_with fail
  refine (IR _ (h1.below b2') (h2.below b2')).mono ?_
  rintro e w3 ⟨a3, m3, c3, a4, m4, c4, rfl, hm3, hm4, o3, o4, ap, b3⟩
  clear IR
  have hR := block_belowV b3 hR
  have b3' := b2'.trans (b3.mono b2'.size)
  have lz := (Array.getElem?_eq_some_iff.1 hR).1
  obtain ⟨x0, x1, x2, f0, f1, f2⟩ := row3V hR
  go_wp2
  refine bodyPost_ret (v := .agg #[.int .i64 0, .slice a3 m3 c3, .slice a4 m4 c4]) (by simp [results, Try.results8, go_sem, x0, x1, x2]) rfl ⟨a3, m3, c3, a4, m4, c4, rfl, hm3, hm4, ?_, ?_, ap, ?_⟩
  · refine owns_base (base := w2.heap.size) (ownsRow_setCell_below (ownsRow_setCell_below (ownsRow_setCell_below o3 ?_ _) ?_ _) ?_ _) (by omega)
    all_goals (show w.heap.size < w2.heap.size; omega)
  · refine owns_base (base := w2.heap.size) (ownsRow_setCell_below (ownsRow_setCell_below (ownsRow_setCell_below o4 ?_ _) ?_ _) ?_ _) (by omega)
    all_goals (show w.heap.size < w2.heap.size; omega)
  · exact ((b3'.setCell (p := ⟨w.heap.size, 0, none⟩) (Nat.le_refl _) _).setCell (p := ⟨w.heap.size, 1, none⟩) (Nat.le_refl _) _).setCell (p := ⟨w.heap.size, 2, none⟩) (Nat.le_refl _) _

set_option maxHeartbeats 1000000 in
theorem eqRecover_same (c : Int) (a a' : Option Addr) (n cap cap' : Nat) (L : List Int) (d d' : Option Addr) (m cd cd' : Nat) (R : List Ch.Row) (w : World) (h : CellsAt w a (n * 1) (icells L)) (h' : CellsAt w a' (n * 1) (icells L)) (g : CellsAt w d (m * 3) (rcells R)) (g' : CellsAt w d' (m * 3) (rcells R)) (hn : n ≤ 4194304) (hm : m ≤ 4194304) :
    Calls Try.prog 12 #[.agg #[.int .i64 c, .slice a n cap, .slice d m cd], .agg #[.int .i64 c, .slice a' n cap', .slice d' m cd']] w fun e w' => e = .returned (.bool true) ∧ Below w.heap.size w w' := by
  have hcc : (c != c) = false := by simp
  have b0 : Below w.heap.size w ((w.alloc (.cells #[.int .i64 c, .slice a n cap, .slice d m cd] 29)).alloc (.cells #[.int .i64 c, .slice a' n cap', .slice d' m cd'] 29)) := ((Below.refl _ _).alloc (Nat.le_refl _) _).alloc (by simp) _
  have x2 : ((w.alloc (.cells #[.int .i64 c, .slice a n cap, .slice d m cd] 29)).alloc (.cells #[.int .i64 c, .slice a' n cap', .slice d' m cd'] 29)).cell? ⟨w.heap.size, 2, none⟩ = some (.slice d m cd) := keep_cell ((Below.refl _ _).alloc (Nat.le_refl _) _) (cell_of_row _ _ _ _ _ _ (heap_alloc_new w _))
  have y2 : ((w.alloc (.cells #[.int .i64 c, .slice a n cap, .slice d m cd] 29)).alloc (.cells #[.int .i64 c, .slice a' n cap', .slice d' m cd'] 29)).cell? ⟨w.heap.size + 1, 2, none⟩ = some (.slice d' m cd') := by
    have := cell_of_row _ (w.heap.size + 1) 2 _ _ _ (heap_alloc_at (w.alloc (.cells #[.int .i64 c, .slice a n cap, .slice d m cd] 29)) (o := .cells #[.int .i64 c, .slice a' n cap', .slice d' m cd'] 29) (by simp))
    exact this
  go_enter Try.func12, Try.ntmps12
  go_wp2_with fail
  refine (eqInts_same a a' n cap cap' L _ (h.below b0) (h'.below b0) hn).mono ?_
  rintro e w1 ⟨rfl, b1⟩
  have x2 := keep_cell b1 x2
  have y2 := keep_cell b1 y2
  have b1' := b0.trans (b1.mono (by simp; omega))
  clear b0 b1
  go_wp2_with fail
  refine (eqRowS_same d d' m cd cd' R _ (g.below b1') (g'.below b1') (by omega)).mono ?_
  rintro e w2 ⟨rfl, b2⟩
  go_wp2
  go_ret
  exact ⟨rfl, b1'.trans (b2.mono b1'.size)⟩

set_option maxHeartbeats 1000000 in
theorem markRecover_any (c : Int) (B : Nat) (a : Option Addr) (n cap : Nat) (L : List Int) (d : Option Addr) (m cd : Nat) (R : List Ch.Row) (w : World) (h : w.ownsRow B 2 1 (.slice a n cap) n (icells L)) (g : w.ownsRow B 50 3 (.slice d m cd) m (rcells R)) (ap : ∀ q, (Value.slice a n cap).ownBlock = some q → (Value.slice d m cd).ownBlock ≠ some q) (hn : n ≤ 1048576) (hm : m ≤ 1048576) :
    Calls Try.prog 17 #[.agg #[.int .i64 c, .slice a n cap, .slice d m cd], .int .i64 1] w fun e w' => e = .returned (.int .i64 (1 + n + 3 * m)) ∧ w'.ownsRow B 2 1 (.slice a n cap) n (icells (imarks 1 n)) ∧ w'.ownsRow B 50 3 (.slice d m cd) m (rcells (rmarks (1 + n) m)) ∧ ∃ wm, w.grownBy wm (Value.slice a n cap).ownBlock ∧ wm.grownBy w' (Value.slice d m cd).ownBlock := by
  have LA := owns_lt h
  have LD := owns_lt g
  have x2 : (w.alloc (.cells #[.int .i64 c, .slice a n cap, .slice d m cd] 29)).cell? ⟨w.heap.size, 2, none⟩ = some (.slice d m cd) := cell_of_row _ _ _ _ _ _ (heap_alloc_new w _)
  have bA : Below w.heap.size w (w.alloc (.cells #[.int .i64 c, .slice a n cap, .slice d m cd] 29)) := (Below.refl _ _).alloc (Nat.le_refl _) _
  have g1 := owns_below g bA
  go_enter Try.func17, Try.ntmps17
  go_wp2_with fail
  refine (markInts_any 1 B n a cap L _ (by decide) (by decide) (h.alloc _) (by omega)).mono ?_
  rintro e w1 ⟨rfl, own1, gr1⟩
  have x2 := grown_cell gr1 x2 (fun hk => by have := (LA _ hk).2; omega)
  have g2 := owns_grown g1 gr1 (fun q hq hk => ap q hk hq)
  have gr1 := gr_alloc gr1
  clear bA g1
  go_wp2_with fail
  refine (markRowS_own (1 + n) B m d cd R _ (by omega) (by omega) g2 (by omega)).mono ?_
  rintro e w2 ⟨rfl, own2, gr2⟩
  have own1 := owns_grown own1 gr2 (fun q hq hk => ap q hq hk)
  go_wp2
  go_ret
  exact ⟨rfl, own1, own2, w1, gr1, gr2⟩

set_option maxHeartbeats 1000000 in
theorem heldRecover_any (c : Int) (a : Option Addr) (n cap : Nat) (d : Option Addr) (m cd : Nat) (w : World) (h : CellsAt w a (n * 1) (icells (imarks 1 n))) (g : CellsAt w d (m * 3) (rcells (rmarks (1 + n) m))) (hn : n ≤ 1048576) (hm : m ≤ 1048576) :
    Calls Try.prog 18 #[.agg #[.int .i64 c, .slice a n cap, .slice d m cd], .int .i64 1] w fun e w' => e = .returned (.int .i64 (1 + n + 3 * m)) ∧ Below w.heap.size w w' := by
  have bA : Below w.heap.size w (w.alloc (.cells #[.int .i64 c, .slice a n cap, .slice d m cd] 29)) := (Below.refl _ _).alloc (Nat.le_refl _) _
  have hi := heldInts_any 1 a n cap _ (by decide) (by decide) (h.below bA) (by omega)
  have hc := heldRowS_any (1 + n) d m cd _ (by omega) (by omega) (g.below bA) (by omega)
  generalize hk1 : (1 + (n : Int)) = k1 at *
  have i1 : ¬ k1 < 0 := by omega
  generalize hk2 : k1 + 3 * (m : Int) = k2 at *
  have i2 : ¬ k2 < 0 := by omega
  clear hk1 hk2 g h
  go_enter Try.func18, Try.ntmps18
  go_wp2_with fail
  refine hi.mono ?_
  rintro e w1 ⟨rfl, hw1⟩
  obtain rfl := hw1.symm
  go_wp2_with fail
  refine hc.mono ?_
  rintro e w2 ⟨rfl, hw2⟩
  obtain rfl := hw2.symm
  go_wp2
  go_ret
  exact ⟨rfl, bA⟩
end Go.Proofs.Ytoijjjckdggglaa


/- The law FnExactRedoRows. -/
namespace Go.Proofs.Ytoijjjckdggglaa
open Go.RowKit

set_option maxHeartbeats 4000000 in
theorem lawRedo_any (a1 : Option Addr) (n1 c1 : Nat) (base : List Ch.Row) (a2 : Option Addr) (n2 c2 : Nat) (rs : List Ch.Rec) (w : World) (h1 : CellsAt w a1 (n1 * 3) (rcells base)) (h2 : CellsAt w a2 (n2 * 7) (rc7 rs)) (hm1 : n1 ≤ 9223372036854775807) (hm2 : n2 ≤ 9223372036854775807) :
    Calls Try.prog 3 #[.slice a1 n1 c1, .slice a2 n2 c2] w fun e w' => e = .returned (.bool true) ∧ Below w.heap.size w w' := by
  have S1 := fun W => sz_from a1 n1 c1 1048576 W (by omega) hm1
  by_cases hbig : 1048576 < n1
  · rw [if_neg (by omega)] at S1
    go_enter Try.func3, Try.ntmps3
    go_wp2_with fail
    refine (S1 _).mono ?_
    rintro e w1 ⟨rfl, rfl⟩
    go_wp2
    go_ret
    exact ⟨rfl, Below.refl _ _⟩
  have hn1 : n1 ≤ 1048576 := by omega
  rw [if_pos hn1] at S1
  obtain ⟨Lf, hLf⟩ : ∃ Lf : Nat, Hid (Lf = 1048576 - n1) := ⟨_, rfl⟩
  have eL : ((1048576 : Nat) : Int) - (n1 : Int) = (Lf : Int) := by have := hLf.out; omega
  have hLe : Lf ≤ 1048576 := by have := hLf.out; omega
  rw [eL] at S1
  have S2 := fun W => szRecS_any a2 n2 c2 Lf W hLe hm2
  have hl0 : ¬ (Lf : Int) < 0 := by omega
  clear eL hbig
  by_cases hbig : Lf < n2
  · rw [if_neg (by omega)] at S2
    go_enter Try.func3, Try.ntmps3
    go_wp2_with fail
    refine (S1 _).mono ?_
    rintro e w1 ⟨rfl, hw1⟩
    obtain rfl := hw1.symm
    go_wp2_with fail
    refine (S2 _).mono ?_
    rintro e w1 ⟨rfl, hw1⟩
    obtain rfl := hw1.symm
    go_wp2
    go_ret
    exact ⟨rfl, Below.refl _ _⟩
  have hn2 : n2 ≤ 1048576 := by omega
  rw [if_pos (by omega)] at S2
  have hl1 : ¬ (Lf : Int) - (n2 : Int) < 0 := by omega
  generalize (Lf : Int) - (n2 : Int) = L2 at *
  generalize (Lf : Int) = L1 at *
  clear hbig hLe hLf
  have SI := fun (W : World) (A1 A2 : Option Addr) (hW1 : CellsAt W A1 (n1 * 3) (rcells base)) (hW2 : CellsAt W A2 (n2 * 7) (rc7 rs)) => specRedo_any A1 n1 n1 base A2 n2 n2 rs W hW1 hW2 hn1 hn2
  have II := fun (W : World) (A1 A2 : Option Addr) (hW1 : CellsAt W A1 (n1 * 3) (rcells base)) (hW2 : CellsAt W A2 (n2 * 7) (rc7 rs)) => implRedo_any A1 n1 n1 base A2 n2 n2 rs W hW1 hW2 hn1 hn2
  generalize Ch.redoR base rs = RR at *
  obtain ⟨c, L, R⟩ := RR
  go_enter Try.func3, Try.ntmps3
  go_wp2_with fail
  refine (S1 _).mono ?_
  rintro e w1 ⟨rfl, hw1⟩
  obtain rfl := hw1.symm
  clear S1
  go_wp2_with fail
  refine (S2 _).mono ?_
  rintro e w1 ⟨rfl, hw1⟩
  obtain rfl := hw1.symm
  clear S2
  go_wp2_with fail
  refine (toRowS_any a1 n1 c1 base _ h1 hn1).mono ?_
  rintro e w1 ⟨rfl, o1, b1⟩
  go_wp2_with fail
  refine (toRecS_any a2 n2 c2 rs _ (h2.below b1) hn2).mono ?_
  rintro e w2 ⟨rfl, o1r, b2⟩
  have b2' := b1.trans (b2.mono b1.size)
  have o1 := owns_below o1 b2
  have z1 := b1.size
  have z2 := b2.size
  go_wp2_with fail
  refine (SI _ _ _ (owns_cells o1) (owns_cells o1r)).mono ?_
  rintro e w3 ⟨sa, sm, sc, ta, tm, tc, rfl, hsm, htm, os, ot, _, b3⟩
  simp only at os ot
  have b3' := b2'.trans (b3.mono b2'.size)
  have z3 := b3.size
  have LS := owns_lt os
  have LT := owns_lt ot
  clear o1 o1r SI b1 b2 b3
  -- the box of the model's answer
  go_wp2_with fail
  refine (toRowS_at (w3.heap.size + 1) a1 n1 c1 base _ (by simp) (h1.below (b3'.alloc b3'.size _)) hn1).mono ?_
  rintro e w4 ⟨rfl, ox, b4⟩
  have x0 := box_cell b4 0
  have x1 := box_cell b4 1
  have x2 := box_cell b4 2
  simp at x0 x1 x2
  have z4 := b4.size
  simp at z4
  have b4 := below_box b4
  have b4' := b3'.trans (b4.mono b3'.size)
  have os := owns_below os b4
  have ot := owns_below ot b4
  have LX := owns_lt ox
  clear b3'
  go_wp2_with fail
  refine (toRecS_any a2 n2 c2 rs _ (h2.below b4') hn2).mono ?_
  rintro e w5 ⟨rfl, oy, b5⟩
  have os := owns_below os b5
  have ot := owns_below ot b5
  have ox := owns_below ox b5
  have x0 := keep_cell b5 x0
  have x1 := keep_cell b5 x1
  have x2 := keep_cell b5 x2
  have b5' := b4'.trans (b5.mono b4'.size)
  have z5 := b5.size
  have LY := owns_lt oy
  clear b4' b4 b5
  go_wp2_with fail
  refine (II _ _ _ (owns_cells ox) (owns_cells oy)).mono ?_
  rintro e w6 ⟨ga, gm, gc, ha, hm, hc, rfl, hgm, hhm, og, oh, apg, b6⟩
  simp only at og oh
  have os := owns_below os b6
  have ot := owns_below ot b6
  have ox := owns_below ox b6
  have oy := owns_below oy b6
  have x0 := keep_cell b6 x0
  have x1 := keep_cell b6 x1
  have x2 := keep_cell b6 x2
  have b6' := b5'.trans (b6.mono b5'.size)
  have z6 := b6.size
  have LG := owns_lt og
  have LH := owns_lt oh
  have E1 : gm = sm := by have e1 := os.1; have e2 := og.1; omega
  have E2 : hm = tm := by have e1 := ot.1; have e2 := oh.1; omega
  subst E1
  subst E2
  have lt6 : w3.heap.size < w6.heap.size := by omega
  clear b5' b6
  go_wp2_with fail
  refine (eqRecover_same _ ga sa gm gc sc L ha ta hm hc tc R _ (owns_cells (og.alloc _)) (owns_cells (os.alloc _)) (owns_cells (oh.alloc _)) (owns_cells (ot.alloc _)) (by omega) (by omega)).mono ?_
  rintro e w7 ⟨rfl, b7⟩
  have y0 := box_cell b7 0
  have y1 := box_cell b7 1
  have y2 := box_cell b7 2
  simp at y0 y1 y2
  have z7 := b7.size
  simp at z7
  have b7 := below_box b7
  have os := owns_below os b7
  have ot := owns_below ot b7
  have ox := owns_below ox b7
  have oy := owns_below oy b7
  have og := owns_below og b7
  have oh := owns_below oh b7
  have x0 := keep_cell b7 x0
  have x1 := keep_cell b7 x1
  have x2 := keep_cell b7 x2
  have b7' := b6'.trans (b7.mono b6'.size)
  clear b6' b7
  go_wp2_with fail
  refine (toRowS_any a1 n1 c1 base _ (h1.below b7') hn1).mono ?_
  rintro e w8 ⟨rfl, ov, b8⟩
  have os := owns_below os b8
  have ot := owns_below ot b8
  have ox := owns_below ox b8
  have oy := owns_below oy b8
  have og := owns_below og b8
  have oh := owns_below oh b8
  have x0 := keep_cell b8 x0
  have x1 := keep_cell b8 x1
  have x2 := keep_cell b8 x2
  have y0 := keep_cell b8 y0
  have y1 := keep_cell b8 y1
  have y2 := keep_cell b8 y2
  have b8' := b7'.trans (b8.mono b7'.size)
  clear b7' b8
  go_wp2_with fail
  refine (eqRowS_same _ _ n1 n1 n1 base _ (owns_cells ox) (owns_cells ov) (by omega)).mono ?_
  rintro e w9 ⟨rfl, b9⟩
  have os := owns_below os b9
  have ot := owns_below ot b9
  have ox := owns_below ox b9
  have oy := owns_below oy b9
  have og := owns_below og b9
  have oh := owns_below oh b9
  have x0 := keep_cell b9 x0
  have x1 := keep_cell b9 x1
  have x2 := keep_cell b9 x2
  have y0 := keep_cell b9 y0
  have y1 := keep_cell b9 y1
  have y2 := keep_cell b9 y2
  have b9' := b8'.trans (b9.mono b8'.size)
  clear b8' b9 ov
  go_wp2_with fail
  refine (toRecS_any a2 n2 c2 rs _ (h2.below b9') hn2).mono ?_
  rintro e w10 ⟨rfl, ov, b10⟩
  have os := owns_below os b10
  have ot := owns_below ot b10
  have ox := owns_below ox b10
  have oy := owns_below oy b10
  have og := owns_below og b10
  have oh := owns_below oh b10
  have x0 := keep_cell b10 x0
  have x1 := keep_cell b10 x1
  have x2 := keep_cell b10 x2
  have y0 := keep_cell b10 y0
  have y1 := keep_cell b10 y1
  have y2 := keep_cell b10 y2
  have b10' := b9'.trans (b10.mono b9'.size)
  clear b9' b10
  go_wp2_with fail
  refine (eqRecS_same _ _ n2 n2 n2 rs _ (owns_cells oy) (owns_cells ov) hn2).mono ?_
  rintro e w11 ⟨rfl, b11⟩
  have os := owns_below os b11
  have ot := owns_below ot b11
  have ox := owns_below ox b11
  have oy := owns_below oy b11
  have og := owns_below og b11
  have oh := owns_below oh b11
  have x0 := keep_cell b11 x0
  have x1 := keep_cell b11 x1
  have x2 := keep_cell b11 x2
  have y0 := keep_cell b11 y0
  have y1 := keep_cell b11 y1
  have y2 := keep_cell b11 y2
  have b11' := b10'.trans (b11.mono b10'.size)
  clear b10' b11 ov
  go_wp2_with fail
  refine (markRowS_own 1 _ n1 _ n1 base _ (by decide) (by decide) ox (by omega)).mono ?_
  rintro e w12 ⟨rfl, _, g12⟩
  have os := owns_grown os g12 (fun g hg hk => by have := LS g hg; have := LX g hk; omega)
  have og := owns_grown og g12 (fun g hg hk => by have := LG g hg; have := LX g hk; omega)
  have ot := owns_grown ot g12 (fun g hg hk => by have := LT g hg; have := LX g hk; omega)
  have oh := owns_grown oh g12 (fun g hg hk => by have := LH g hg; have := LX g hk; omega)
  have oy := owns_grown oy g12 (fun g hg hk => by have := LY g hg; have := LX g hk; omega)
  have x0 := grown_cell g12 x0 (fun hk => by have := LX _ hk; omega)
  have x1 := grown_cell g12 x1 (fun hk => by have := LX _ hk; omega)
  have x2 := grown_cell g12 x2 (fun hk => by have := LX _ hk; omega)
  have y0 := grown_cell g12 y0 (fun hk => by have := LX _ hk; omega)
  have y1 := grown_cell g12 y1 (fun hk => by have := LX _ hk; omega)
  have y2 := grown_cell g12 y2 (fun hk => by have := LX _ hk; omega)
  have b12' := b11'.grown g12 b11'.size (by intro k hk; have := (LX k hk).1; omega)
  clear b11' g12 ox
  have hk1 : 0 < 1 + 3 * (n1 : Int) := by omega
  have hk2 : 1 + 3 * (n1 : Int) ≤ 1099511627776 := by omega
  have hMR := markRecS_any (1 + 3 * (n1 : Int)) _ n2 _ n2 rs w12 hk1 hk2 oy (by omega)
  have hk3 : ¬ (1 + 3 * (n1 : Int)) + 7 * (n2 : Int) < 0 := by omega
  generalize (1 + 3 * (n1 : Int)) + 7 * (n2 : Int) = kk2 at *
  generalize (1 + 3 * (n1 : Int)) = kk1 at *
  go_wp2_with fail
  refine hMR.mono ?_
  rintro e w13 ⟨rfl, _, g13⟩
  clear hMR hk1 hk2
  have os := owns_grown os g13 (fun g hg hk => by have := LS g hg; have := LY g hk; omega)
  have og := owns_grown og g13 (fun g hg hk => by have := LG g hg; have := LY g hk; omega)
  have ot := owns_grown ot g13 (fun g hg hk => by have := LT g hg; have := LY g hk; omega)
  have oh := owns_grown oh g13 (fun g hg hk => by have := LH g hg; have := LY g hk; omega)
  have x0 := grown_cell g13 x0 (fun hk => by have := LY _ hk; omega)
  have x1 := grown_cell g13 x1 (fun hk => by have := LY _ hk; omega)
  have x2 := grown_cell g13 x2 (fun hk => by have := LY _ hk; omega)
  have y0 := grown_cell g13 y0 (fun hk => by have := LY _ hk; omega)
  have y1 := grown_cell g13 y1 (fun hk => by have := LY _ hk; omega)
  have y2 := grown_cell g13 y2 (fun hk => by have := LY _ hk; omega)
  have b13' := b12'.grown g13 b12'.size (by intro k hk; have := (LY k hk).1; omega)
  clear b12' g13 oy
  go_wp2_with fail
  refine (eqRecover_same _ ga sa gm gc sc L ha ta hm hc tc R _ (owns_cells og) (owns_cells os) (owns_cells oh) (owns_cells ot) (by omega) (by omega)).mono ?_
  rintro e w14 ⟨rfl, b14⟩
  have os := owns_below os b14
  have ot := owns_below ot b14
  have og := owns_below og b14
  have oh := owns_below oh b14
  have x0 := keep_cell b14 x0
  have x1 := keep_cell b14 x1
  have x2 := keep_cell b14 x2
  have y0 := keep_cell b14 y0
  have y1 := keep_cell b14 y1
  have y2 := keep_cell b14 y2
  have b14' := b13'.trans (b14.mono b13'.size)
  clear b13' b14
  go_wp2_with fail
  refine (markRecover_any _ _ ga gm gc L ha hm hc R _ og oh apg hgm hhm).mono ?_
  rintro e w15 ⟨rfl, og, oh, wm, g15, g16⟩
  have os := owns_grown os g15 (fun g hg hk => by have := LS g hg; have := LG g hk; omega)
  have ot := owns_grown ot g15 (fun g hg hk => by have := LT g hg; have := LG g hk; omega)
  have x0 := grown_cell g15 x0 (fun hk => by have := LG _ hk; omega)
  have x1 := grown_cell g15 x1 (fun hk => by have := LG _ hk; omega)
  have x2 := grown_cell g15 x2 (fun hk => by have := LG _ hk; omega)
  have y0 := grown_cell g15 y0 (fun hk => by have := LG _ hk; omega)
  have y1 := grown_cell g15 y1 (fun hk => by have := LG _ hk; omega)
  have y2 := grown_cell g15 y2 (fun hk => by have := LG _ hk; omega)
  have os := owns_grown os g16 (fun g hg hk => by have := LS g hg; have := LH g hk; omega)
  have ot := owns_grown ot g16 (fun g hg hk => by have := LT g hg; have := LH g hk; omega)
  have x0 := grown_cell g16 x0 (fun hk => by have := LH _ hk; omega)
  have x1 := grown_cell g16 x1 (fun hk => by have := LH _ hk; omega)
  have x2 := grown_cell g16 x2 (fun hk => by have := LH _ hk; omega)
  have y0 := grown_cell g16 y0 (fun hk => by have := LH _ hk; omega)
  have y1 := grown_cell g16 y1 (fun hk => by have := LH _ hk; omega)
  have y2 := grown_cell g16 y2 (fun hk => by have := LH _ hk; omega)
  have b15' := b14'.grown g15 b14'.size (by intro k hk; have := (LG k hk).1; omega)
  have b16' := b15'.grown g16 b15'.size (by intro k hk; have := (LH k hk).1; omega)
  have hq : ((1 + (gm : Int) + 3 * (hm : Int)) != 1 + gm + 3 * hm) = false := by simp
  have hq0 : ¬ (1 + (gm : Int) + 3 * (hm : Int)) < 0 := by omega
  clear b14' b15' g15 g16
  have HE := fun W hW1 hW2 => heldRecover_any c ga gm gc ha hm hc W hW1 hW2 hgm hhm
  generalize (1 + (gm : Int) + 3 * (hm : Int)) = kk3 at *
  go_wp2_with fail
  refine (HE _ (owns_cells og) (owns_cells oh)).mono ?_
  rintro e w17 ⟨rfl, b17⟩
  have os := owns_below os b17
  have ot := owns_below ot b17
  have og := owns_below og b17
  have oh := owns_below oh b17
  have x0 := keep_cell b17 x0
  have x1 := keep_cell b17 x1
  have x2 := keep_cell b17 x2
  have y0 := keep_cell b17 y0
  have y1 := keep_cell b17 y1
  have y2 := keep_cell b17 y2
  have b17' := b16'.trans (b17.mono b16'.size)
  clear b16' b17
  go_wp2_with fail
  refine (toRowS_any a1 n1 c1 base _ (h1.below b17') hn1).mono ?_
  rintro e w18 ⟨rfl, ou, b18⟩
  have os := owns_below os b18
  have ot := owns_below ot b18
  have og := owns_below og b18
  have oh := owns_below oh b18
  have x0 := keep_cell b18 x0
  have x1 := keep_cell b18 x1
  have x2 := keep_cell b18 x2
  have y0 := keep_cell b18 y0
  have y1 := keep_cell b18 y1
  have y2 := keep_cell b18 y2
  have b18' := b17'.trans (b18.mono b17'.size)
  clear b17' b18
  go_wp2_with fail
  refine (toRecS_any a2 n2 c2 rs _ (h2.below b18') hn2).mono ?_
  rintro e w19 ⟨rfl, ov, b19⟩
  have os := owns_below os b19
  have ot := owns_below ot b19
  have og := owns_below og b19
  have oh := owns_below oh b19
  have ou := owns_below ou b19
  have x0 := keep_cell b19 x0
  have x1 := keep_cell b19 x1
  have x2 := keep_cell b19 x2
  have y0 := keep_cell b19 y0
  have y1 := keep_cell b19 y1
  have y2 := keep_cell b19 y2
  have b19' := b18'.trans (b19.mono b18'.size)
  clear b18' b19
  go_wp2_with fail
  refine (II _ _ _ (owns_cells ou) (owns_cells ov)).mono ?_
  rintro e w20 ⟨pa, pm, pc, qa, qm, qc, rfl, hpm, hqm, op, oq, _, b20⟩
  simp only at op oq
  have os := owns_below os b20
  have ot := owns_below ot b20
  have og := owns_below og b20
  have oh := owns_below oh b20
  have x0 := keep_cell b20 x0
  have x1 := keep_cell b20 x1
  have x2 := keep_cell b20 x2
  have y0 := keep_cell b20 y0
  have y1 := keep_cell b20 y1
  have y2 := keep_cell b20 y2
  have b20' := b19'.trans (b20.mono b19'.size)
  have E1 : pm = gm := by have e1 := os.1; have e2 := op.1; omega
  have E2 : qm = hm := by have e1 := ot.1; have e2 := oq.1; omega
  subst E1
  subst E2
  have l1 := lt_of_cell x0
  have l2 := lt_of_cell y0
  clear b19' b20 ou ov II
  go_wp2_with fail
  refine (eqRecover_same _ pa sa pm pc sc L qa ta qm qc tc R _ (owns_cells (op.alloc _)) (owns_cells (os.alloc _)) (owns_cells (oq.alloc _)) (owns_cells (ot.alloc _)) (by omega) (by omega)).mono ?_
  rintro e w21 ⟨rfl, b21⟩
  have b21 := below_box b21
  have og := owns_below og b21
  have oh := owns_below oh b21
  have y0 := keep_cell b21 y0
  have y1 := keep_cell b21 y1
  have y2 := keep_cell b21 y2
  have b21' := b20'.trans (b21.mono b20'.size)
  clear b20' b21
  go_wp2_with fail
  refine (HE _ (owns_cells og) (owns_cells oh)).mono ?_
  rintro e w22 ⟨rfl, b22⟩
  go_wp2
  go_ret
  exact ⟨rfl, b21'.trans (b22.mono b21'.size)⟩
end Go.Proofs.Ytoijjjckdggglaa

