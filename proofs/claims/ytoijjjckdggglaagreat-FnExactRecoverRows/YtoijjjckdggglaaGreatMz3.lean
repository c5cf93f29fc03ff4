/- Several texts in one: LosC, RdI, RdJ. -/
import Derived.Test.YtoijjjckdggglaaGreatMz2
import Derived.Test.YtoijjjckdggglaaGreatRvD
import Derived.Test.YtoijjjckdggglaaGreatMz1
import Derived.Test.YtoijjjckdggglaaGreatMz0


/- LosersOf of the program and of the model. -/
namespace Go.Proofs.YtoijjjckdggglaaGreat
open Go.RowKit Go.Maps

set_option linter.unusedSimpArgs false in
set_option maxRecDepth 20000 in
set_option maxHeartbeats 4000000 in
theorem specLosers_any (a : Option Addr) (n cap : Nat) (rs : List Ch.Rec) (w : World) (h : CellsAt w a (n * 7) (rc7 rs)) (hn : n ≤ 1048576) :
    Calls Tryz.prog 45 #[.slice a n cap] w fun e w' => ∃ a' m c', e = .returned (.slice a' m c') ∧ m ≤ 999 ∧ w'.ownsRow w.heap.size 2 1 (.slice a' m c') m (icells (Ch.losL rs)) ∧ Below w.heap.size w w' := by
  obtain ⟨i0, hi0, hz0, hz1, hz2⟩ := info_parts Tryz.info2
  have HLI := hid (fun t => Ch.lost_is rs t)
  have HLY := hid (fun m h => Ch.losTo_yes (rs := rs) (m := m) h)
  have HLN := hid (fun m h => Ch.losTo_no (rs := rs) (m := m) h)
  have hLL : Hid (Ch.losL rs = Ch.losTo rs 999) := rfl
  rw [hLL.out]
  have IK := fun kd W hW => kind_any a n cap kd rs W hW hn
  generalize HK1 : Ch.kindL rs 1 = K1 at HLI
  generalize HK4 : Ch.kindL rs 4 = K4 at HLI
  generalize HK5 : Ch.kindL rs 5 = K5 at HLI
  have I1 := fun W hW => IK 1 W hW
  have I4 := fun W hW => IK 4 W hW
  have I5 := fun W hW => IK 5 W hW
  rw [HK1] at I1
  rw [HK4] at I4
  rw [HK5] at I5
  clear IK HK1 HK4 HK5 hLL
  go_enter Tryz.func45, Tryz.ntmps45
  go_wp2_with fail
  refine (I1 _ h).mono ?_
  rintro e w1 ⟨a1, m1, c1, rfl, hm1, o1, b1⟩
  clear I1
  go_wp2_with fail
  refine (I4 _ (h.below b1)).mono ?_
  rintro e w2 ⟨a2, m2, c2, rfl, hm2, o2, b2⟩
  clear I4
  have b2' := b1.trans (b2.mono b1.size)
  have LT1 : ∀ g, (Value.slice a1 m1 c1).ownBlock = some g → g < w1.heap.size := fun g hg => (owns_lt o1 g hg).2
  have o1 := owns_below o1 b2
  go_wp2_with fail
  refine (I5 _ (h.below b2')).mono ?_
  rintro e w3 ⟨a3, m3, c3, rfl, hm3, o3, b3⟩
  clear I5
  have b3' := b2'.trans (b3.mono b2'.size)
  have o1 := owns_below o1 b3
  have o2 := owns_below o2 b3
  have z1 := b1.size
  have z2 := b2.size
  have z3 := b3.size
  have hsum : m2 + m3 ≤ 4194304 := by omega
  have L1 := owns_lt o1
  have L2 := owns_lt o2
  have D1 : ∀ g, (Value.slice a1 m1 c1).ownBlock = some g → g < w1.heap.size := fun g hg => LT1 g hg
  go_wp2_with (at_builtin; go_must (refine wpList_appX Tryz.underlying25 Tryz.underlying25 hi0 hz0 hz1 hz2 rfl (by omega) (by omega) (.tmp 10) (.tmp 12) ?_ ?_ w1.heap.size (.slice a2 m2 c2) m2 (icells K4) a3 m3 c3 (icells K5) ?_ ?_ o2 (owns_cells o3) (icells_one' K5) hsum (by omega) ?_; exact rfl; exact rfl; exact rfl; exact rfl; intro a4 c4 w4 o4 gr4 at4; have oE := own_empty w4 w4.heap.size 2 1 (Nat.le_refl _); have kE : Below w4.heap.size w4 (w4.alloc (.cells #[] 2)) := (Below.refl _ _).alloc (Nat.le_refl _) _))
  have o1 := owns_grown o1 gr4 (fun g hg hk => by have := D1 g hg; have := (L2 g hk).1; omega)
  have b4' := b3'.grown gr4 b3'.size (fun g hg => by have := (L2 g hg).1; omega)
  rw [← icells_append] at o4
  have z4 := b4'.size
  clear o2 o3 gr4 at4 L1 L2 D1 b1 b2 b3 b3' b2'
  generalize K4 ++ K5 = KE at *
  go_loopw [5, 6] (fun q i wr => ∃ (k m : Nat) (a' : Option Addr) (c' : Nat), k ≤ 999 ∧ m ≤ k ∧ i = .int .i64 ((k : Int) + 1) ∧ q = .slice a' m c' ∧ wr.ownsRow w4.heap.size 2 1 (.slice a' m c') m (icells (Ch.losTo rs k)) ∧ Below w4.heap.size w4 wr) (fun _ i _ => 1000 - (intOf i).toNat)
  case atStart => exact ⟨0, 0, _, _, Nat.zero_le _, Nat.le_refl _, rfl, rfl, oE, kE⟩
  case round =>
    clear oE kE
    obtain ⟨k, m, a', c', hk, hmk, rfl, rfl, own, hB⟩ := hrel
    by_cases hlt : k < 999
    · have hle : (k : Int) + 1 ≤ 999 := by omega
      have hge : 0 ≤ (k : Int) + 1 := by omega
      replace HLI := hid (HLI.out ((k : Int) + 1))
      replace HLY := hid (fun h => HLY.out k h)
      replace HLN := hid (fun h => HLN.out k h)
      have C1 := owns_cells (owns_below o1 hB)
      have CE := owns_cells (owns_below o4 hB)
      have IC := fun W hW => amongV_any a1 m1 c1 ((k : Int) + 1) K1 W hW (by omega)
      have IE := fun W hW => amongV_any a4 (m2 + m3) c4 ((k : Int) + 1) KE W hW (by omega)
      generalize Ch.losTo rs k = zs at *
      generalize Ch.Ft.lost (Ch.fate rs ((k : Int) + 1)) = lb at *
      generalize K1.contains ((k : Int) + 1) = cb at *
      generalize KE.contains ((k : Int) + 1) = ce at *
      have i1 : 1000 - (k + 1 + 1) < 1000 - (k + 1) := by omega
      cases cb
      · have HQ := hid (HLN.out (by rw [HLI.out]; rfl))
        clear HLI HLY HLN
        go_wp2_with (go_at_call 47; refine (IC _ C1).mono ?_; rintro e w5 ⟨rfl, hw5⟩; obtain rfl := hw5.symm)
        go_roundw
        case rel => exact ⟨k + 1, m, a', c', by omega, by omega, by go_num, rfl, by rw [HQ.out]; exact own, hB⟩
        case measure => simp [intOf]; omega
      · cases ce
        · have HQ := hid (HLY.out (by rw [HLI.out]; rfl))
          clear HLI HLY HLN
          have kQ : Below wr.heap.size wr (wr.alloc (.cells #[.int .i64 ((k : Int) + 1)] 2)) := (Below.refl _ _).alloc (Nat.le_refl _) _
          have own3 := owns_below own kQ
          have hC3 := new_int wr ((k : Int) + 1) 2
          have hb3 : w4.heap.size ≤ (wr.alloc (.cells #[.int .i64 ((k : Int) + 1)] 2)).heap.size := by have := hB.size; simp; omega
          have b3 := hB.trans (kQ.mono hB.size)
          go_wp2_with (first | (at_builtin; go_must (refine wpList_appX Tryz.underlying25 Tryz.underlying25 hi0 hz0 hz1 hz2 rfl (by omega) (by omega) (.tmp 28) (.tmp 30) ?_ ?_ w4.heap.size (.slice a' m c') m (icells zs) _ 1 1 (icells [(k : Int) + 1]) ?_ ?_ own3 hC3 (icells_one' [(k : Int) + 1]) (by omega) hb3 ?_; exact rfl; exact rfl; exact rfl; exact rfl; intro a5 c5 w5 own5 gr5 at5; go_frame)) | (go_at_call 47; first | (refine (IC _ C1).mono ?_; rintro e w5 ⟨rfl, hw5⟩; obtain rfl := hw5.symm; clear IC) | (refine (IE _ CE).mono ?_; rintro e w5 ⟨rfl, hw5⟩; obtain rfl := hw5.symm)))
          go_roundw
          case rel =>
            rw [← icells_append, ← HQ.out] at own5
            exact ⟨k + 1, m + 1, a5, c5, by omega, by omega, by go_num, rfl, own5, b3.grown gr5 b3.size (fun g hg => (owns_lt own3 g hg).1)⟩
          case measure => simp [intOf]; omega
        · have HQ := hid (HLN.out (by rw [HLI.out]; rfl))
          clear HLI HLY HLN
          go_wp2_with (go_at_call 47; first | (refine (IC _ C1).mono ?_; rintro e w5 ⟨rfl, hw5⟩; obtain rfl := hw5.symm; clear IC) | (refine (IE _ CE).mono ?_; rintro e w5 ⟨rfl, hw5⟩; obtain rfl := hw5.symm))
          go_roundw
          case rel => exact ⟨k + 1, m, a', c', by omega, by omega, by go_num, rfl, by rw [HQ.out]; exact own, hB⟩
          case measure => simp [intOf]; omega
    · obtain rfl : k = 999 := by omega
      go_wp2
      go_ret
      exact ⟨a', m, c', rfl, by omega, owns_base own (by omega), b4'.trans (hB.mono b4'.size)⟩

end Go.Proofs.YtoijjjckdggglaaGreat


/- l13Redo and RedoRows of the model. -/
namespace Go.Proofs.YtoijjjckdggglaaGreat
open Go.RowKit

theorem Ch.fold_out : ∀ (l : List Ch.Row) (S : Ch.Sl) (q : Int), (∀ r ∈ l, r.k ≠ q) → (l.foldl (fun S r => S.set r.k (some r.v)) S) q = S q := by
  intro l
  induction l with
  | nil => intro S q _; rfl
  | cons a l ih =>
    intro S q h
    rw [List.foldl_cons, ih _ _ (fun r hr => h r (List.mem_cons_of_mem _ hr))]
    simp only [Ch.Sl.set]
    rw [if_neg (fun e => h a List.mem_cons_self e.symm)]
theorem Ch.fold_in : ∀ (l : List Ch.Row) (S : Ch.Sl), l.Pairwise (fun a b => a.k < b.k) → ∀ r ∈ l, (l.foldl (fun S r => S.set r.k (some r.v)) S) r.k = some r.v := by
  intro l
  induction l with
  | nil => intro S _ r hr; simp at hr
  | cons a l ih =>
    intro S hp r hr
    have p1 := List.pairwise_cons.1 hp
    rw [List.foldl_cons]
    rcases List.mem_cons.1 hr with rfl | hr
    · rw [Ch.fold_out _ _ _ (fun x hx => by have := p1.1 x hx; omega)]
      simp [Ch.Sl.set]
    · exact ih _ p1.2 r hr
theorem Ch.filter_same : ∀ (l : List Ch.Row), ¬ (Ch.noGhost l).length < l.length → ∀ r ∈ l, r.g = false := by
  intro l
  induction l with
  | nil => intro _ r hr; simp at hr
  | cons a l ih =>
    intro h r hr
    have hle := Ch.noGhost_len l
    unfold Ch.noGhost at h hle
    rw [List.filter_cons] at h
    cases hg : a.g
    · rw [hg] at h
      simp only [Bool.not_false, if_true, List.length_cons] at h
      rcases List.mem_cons.1 hr with rfl | hr
      · exact hg
      · exact ih (by unfold Ch.noGhost; omega) r hr
    · rw [hg] at h
      simp only [Bool.not_true, if_neg (by simp : ¬ false = true), List.length_cons] at h
      exfalso; omega
/-- A base without a fault is the rows of what it says. -/
theorem Ch.base_rows {base : List Ch.Row} (h : Ch.baseF base = 0) : Ch.rowsS (Ch.baseTo base base.length) = base := by
  obtain ⟨h1, h2, h3⟩ := Ch.base_zero h
  have hri : Ch.rise base = 0 := by
    have he : Ch.eachF base = 0 := Ch.each_zero (fun r hr => by
      obtain ⟨i, hi, rfl⟩ := List.getElem_of_mem hr
      have := h3 i hi
      simpa [List.getD, hi] using this)
    rw [Ch.mapF_rise (by omega) he] at h1
    exact h1
  have hp := (Ch.rise_iff base none).1 hri
  have hg : ∀ r ∈ base, r.g = false := Ch.filter_same base (fun hl => by rw [Ch.base_ghost h1 hl] at h; omega)
  refine Ch.rows_ext _ _ (Ch.rowsTo_sorted _ 100) hp.2.1 (fun r => ?_)
  rw [Ch.rowsS, Ch.rowsTo_mem]
  have hin := Ch.fold_in base (fun _ => none) hp.2.1
  constructor
  · rintro ⟨i, hi, hk, hs, hgr⟩
    unfold Ch.baseTo at hs
    rw [List.take_length] at hs
    by_cases he : ∃ x ∈ base, x.k = (i : Int)
    · obtain ⟨x, hx, hxk⟩ := he
      have h5 := hin x hx
      rw [hxk, hs] at h5
      have : r = x := by
        obtain ⟨k, v, g⟩ := r
        obtain ⟨k', v', g'⟩ := x
        have h6 := hg _ hx
        simp only [Option.some.injEq] at hk hxk h5 hgr h6
        rw [hk, hxk, h5, hgr, h6]
      rw [this]; exact hx
    · rw [Ch.fold_out _ _ _ (fun x hx e => he ⟨x, hx, e⟩)] at hs
      simp at hs
  · intro hr
    have hf := Ch.row_key (hp.1 r hr)
    refine ⟨r.k.toNat, by omega, by omega, ?_, hg r hr⟩
    rw [show ((r.k.toNat : Nat) : Int) = r.k by omega]
    unfold Ch.baseTo
    rw [List.take_length]
    exact hin r hr
theorem Ch.setR_rows (S : Ch.Sl) {ky : Int} (h : 0 ≤ ky ∧ ky ≤ 99) (hs : Bool) (v : Int) : Ch.setR (Ch.rowsS S) ky hs v = Ch.rowsS (S.set ky (Ch.optV hs v)) := by
  cases hs
  · exact Ch.rowsS_drop S ky
  · exact Ch.rowsS_into S h.1 h.2
theorem Ch.rowsS_len (S : Ch.Sl) : (Ch.rowsS S).length ≤ 100 := Ch.rowsTo_len S 100
theorem Ch.los_has (rs : List Ch.Rec) {t : Int} (h : 1 ≤ t ∧ t ≤ 999) : (Ch.losL rs).contains t = (Ch.fate rs t).lost := by
  rw [Bool.eq_iff_iff, List.contains_iff_mem, Ch.losL_mem]
  exact ⟨fun h => h.2.2, fun hl => ⟨h.1, h.2, hl⟩⟩
theorem backs_at (H : Nat) (a : Option Addr) (n cap : Nat) (rs : List Ch.Rec) (w : World) (hH : w.heap.size = H) (h : CellsAt w a (n * 7) (rc7 rs)) (hn : n ≤ 800) (hf : ∀ k, k < rs.length → (rs.getD k Ch.Rec.zero).fault = 0) :
    Calls Tryz.prog 46 #[.slice a n cap] w fun e w' => e = .returned (.slice (some ⟨H, 0, none⟩) 1000 1000) ∧ w'.ownsRow H 2 1 (.slice (some ⟨H, 0, none⟩) 1000 1000) 1000 (icells (Ch.bkL (fun t => (Ch.fate rs t).bk))) ∧ Below w.heap.size w w' := by
  subst hH
  exact backs_any a n cap rs w h hn hf
theorem owns_lenR {w : World} {B : Nat} {v : Value} {m : Nat} {zs : List Ch.Row} (h : w.ownsRow B 44 3 v m (rcells zs)) : m = zs.length := by
  have := h.1
  rw [rcells_len] at this
  omega

set_option linter.unusedSimpArgs false in
set_option maxRecDepth 20000 in
set_option maxHeartbeats 4000000 in
theorem specRedo1_any (a1 : Option Addr) (n1 c1 : Nat) (base : List Ch.Row) (a2 : Option Addr) (n2 c2 : Nat) (rs : List Ch.Rec) (w : World) (h1 : CellsAt w a1 (n1 * 3) (rcells base)) (h2 : CellsAt w a2 (n2 * 7) (rc7 rs)) (HC : Ch.recsF rs = 0) (HD : Ch.baseF base = 0) :
    Calls Tryz.prog 29 #[.slice a1 n1 c1, .slice a2 n2 c2] w fun e w' => ∃ a3 m3 c3 a4 m4 c4, RedoAt w w' e (0, Ch.losL rs, Ch.rowsS (Ch.endS base rs).s) a3 m3 c3 a4 m4 c4 := by
  have HEN : Hid (Ch.endS base rs = Ch.backTo (fun t => (Ch.fate rs t).lost) ⟨Ch.redoTo (Ch.baseTo base base.length) rs rs.length, fun t => (Ch.fate rs t).bk⟩ rs.reverse) := rfl
  rw [HEN.out]
  clear HEN
  have HZ := hid (Ch.recsF_zero HC)
  have HY := hid (Ch.base_zero HD)
  have HBR := hid (Ch.base_rows HD)
  have HL := h2.len7
  have HL1 := h1.rlen
  have hn8 : n2 ≤ 800 := by have h1 := HZ.out.1; have h2 := HL.out; omega
  have hn24 : n1 ≤ 240 := by have h1 := HY.out.2.1; have h2 := HL1.out; omega
  clear HC HD
  generalize hS0 : Ch.baseTo base base.length = S0 at *
  generalize hS1 : Ch.redoTo S0 rs rs.length = S1 at *
  obtain ⟨i0, hi0, hz0, hz1, hz2⟩ := info_parts Tryz.info44
  have oE := own_empty (w.alloc (.cells #[.int .i64 0, .slice none 0 0, .slice none 0 0] 28)) (w.heap.size + 1) 44 3 (by simp)
  rw [show (w.alloc (.cells #[.int .i64 0, .slice none 0 0, .slice none 0 0] 28)).heap.size = w.heap.size + 1 by simp] at oE
  have bE : Below w.heap.size w ((w.alloc (.cells #[.int .i64 0, .slice none 0 0, .slice none 0 0] 28)).alloc (.cells #[] 44)) := ((Below.refl _ _).alloc (Nat.le_refl _) _).alloc (by simp) _
  have hC1 := h1.below bE
  have hR : ((w.alloc (.cells #[.int .i64 0, .slice none 0 0, .slice none 0 0] 28)).alloc (.cells #[] 44)).heap[w.heap.size]? = some (.cells #[.int .i64 0, .slice none 0 0, .slice none 0 0] 28 (0, 0)) := block_belowV ((Below.refl _ _).alloc (Nat.le_refl _) _) (heap_alloc_new w _)
  have hbE : w.heap.size + 1 ≤ ((w.alloc (.cells #[.int .i64 0, .slice none 0 0, .slice none 0 0] 28)).alloc (.cells #[] 44)).heap.size := by simp
  have hsE : 0 + n1 ≤ 4194304 := by omega
  go_enter Tryz.func29, Tryz.ntmps29
  go_wp2_with (at_builtin; go_must (refine wpList_appX Tryz.underlying26 Tryz.underlying26 hi0 hz0 hz1 hz2 rfl (by omega) (by omega) (.tmp 11) (.tmp 12) ?_ ?_ (w.heap.size + 1) (.slice (some ⟨w.heap.size + 1, 0, none⟩) 0 0) 0 [] a1 n1 c1 (rcells base) ?_ ?_ oE hC1 (rcells_oneV _) hsE hbE ?_; exact rfl; exact rfl; exact rfl; exact rfl; intro a3 c3 w1 o1 gr1 at1; simp only [Nat.zero_add, List.nil_append] at o1 ⊢; go_frame))
  have b1 := bE.grown gr1 bE.size (fun g hg => by have := (owns_lt oE g hg).1; omega)
  have hR := block_grownV gr1 hR (own_apartV oE (by omega))
  have hs1 : w.heap.size + 1 ≤ w1.heap.size := Nat.le_trans hbE gr1.size
  rw [← HBR.out] at o1
  clear oE bE hC1 hbE hsE gr1 at1
  go_loopw [5, 6] (fun q i wr => ∃ (k m : Nat) (a' : Option Addr) (c' : Nat), k ≤ n2 ∧ i = .int .i64 k ∧ q = .slice a' m c' ∧ wr.ownsRow (w.heap.size + 1) 44 3 (.slice a' m c') m (rcells (Ch.rowsS (Ch.redoTo S0 rs k))) ∧ wr.heap[w.heap.size]? = some (.cells #[.int .i64 0, .slice none 0 0, .slice none 0 0] 28 (0, 0)) ∧ w.heap.size + 1 ≤ wr.heap.size ∧ Below w.heap.size w wr) (fun _ i _ => n2 - (intOf i).toNat)
  case atStart => exact ⟨0, _, _, _, Nat.zero_le _, rfl, rfl, o1, hR, hs1, b1⟩
  case round =>
    clear hR o1 hs1 b1
    obtain ⟨k, m, a', c', hk, rfl, rfl, own, hR, hsz, hB⟩ := hrel
    have hm := owns_lenR own
    have hm1 : m ≤ 100 := by rw [hm]; exact Ch.rowsS_len _
    clear hm
    by_cases hlt : k < n2
    · have hkl : k < rs.length := by have := HL.out; omega
      have HK := hid (Ch.Rec.fit (HZ.out.2 k hkl)).ky
      have HT := hid (Ch.redoTo_step (S := S0) (rs := rs) hkl)
      have HN := hid (fun hh => Ch.redo1_no (S := Ch.redoTo S0 rs k) (r := rs.getD k Ch.Rec.zero) hh)
      have HYS := hid (fun hh => Ch.redo1_yes (S := Ch.redoTo S0 rs k) (r := rs.getD k Ch.Rec.zero) hh)
      obtain ⟨b, off, rfl, q0, q1, q2, q3, q4, q5, q6⟩ := (h2.below hB).rec hlt
      have hbl := lt_of_cell q0
      generalize rs.getD k Ch.Rec.zero = r at *
      obtain ⟨rk, rt, ry, rh, ro, rx, rn⟩ := r
      simp only at q0 q1 q2 q3 q4 q5 q6 HK HN HYS
      have hkk : 0 ≤ ry ∧ ry ≤ 99 := HK.out
      have HSR := hid (Ch.setR_rows (Ch.redoTo S0 rs k) hkk rx rn)
      have IT := fun W => l2Sets_any rk W
      cases hs : Ch.sets rk
      · rw [hs] at IT
        replace HN := hid (HT.out.trans (HN.out hs))
        clear HYS HT hs HSR
        go_wp2_with (go_at_call 40; refine (IT _).mono ?_; rintro e w1 ⟨rfl, hw1⟩; obtain rfl := hw1.symm)
        go_roundw
        case rel => exact ⟨k + 1, m, a', c', by omega, by go_num, rfl, by rw [HN.out]; exact own, hR, hsz, hB⟩
        case measure => simp [intOf]; omega
      · rw [hs] at IT
        replace HYS := hid (HT.out.trans (HYS.out hs))
        clear HN HT hs
        have i1 : (k : Int) < (n2 : Int) := by omega
        go_wp2_with (go_at_call 40; refine (IT _).mono ?_; rintro e w1 ⟨rfl, hw1⟩; obtain rfl := hw1.symm)
        clear IT
        refine wp_region_noPanic ?_
        refine wp_region_held_drew (S := fun W' => W'.cell? ⟨b, off + k * 7 + 2, none⟩ = some (.int .i64 ry) ∧ W'.cell? ⟨b, off + k * 7 + 5, none⟩ = some (.bool rx) ∧ W'.cell? ⟨b, off + k * 7 + 6, none⟩ = some (.int .i64 rn) ∧ Below wr.heap.size wr W') (by kernel_rfl) (⟨q2, q5, q6, (Below.refl _ _).drew⟩) (fun hH => ?_)
        refine hTake (i := 0) (v := ?_) rfl (by kernel_rfl) (by kernel_rfl) (by kernel_rfl) (by rfl) ?_ hH ?_
        rotate_left
        · intro W hW; (try dsimp only at hW); go_simp <;> with_reducible rfl
        simp only [Act.put, List.setIfInBounds_toArray, List.set_cons_zero, List.set_cons_succ]
        refine hTake (i := 1) (v := ?_) rfl (by kernel_rfl) (by kernel_rfl) (by kernel_rfl) (by rfl) ?_ hH ?_
        rotate_left
        · intro W hW; (try dsimp only at hW); go_simp <;> with_reducible rfl
        simp only [Act.put, List.setIfInBounds_toArray, List.set_cons_zero, List.set_cons_succ]
        refine hTake (i := 2) (v := ?_) rfl (by kernel_rfl) (by kernel_rfl) (by kernel_rfl) (by rfl) ?_ hH ?_
        rotate_left
        · intro W hW; (try dsimp only at hW); go_simp <;> with_reducible rfl
        simp only [Act.put, List.setIfInBounds_toArray, List.set_cons_zero, List.set_cons_succ]
        refine hTake (i := 3) (v := ?_) rfl (by kernel_rfl) (by kernel_rfl) (by kernel_rfl) (by rfl) ?_ hH ?_
        rotate_left
        · intro W hW; (try dsimp only at hW); go_simp <;> with_reducible rfl
        simp only [Act.put, List.setIfInBounds_toArray, List.set_cons_zero, List.set_cons_succ]
        refine hTake (i := 4) (v := ?_) rfl (by kernel_rfl) (by kernel_rfl) (by kernel_rfl) (by rfl) ?_ hH ?_
        rotate_left
        · intro W hW; (try dsimp only at hW); go_simp <;> with_reducible rfl
        simp only [Act.put, List.setIfInBounds_toArray, List.set_cons_zero, List.set_cons_succ]
        refine hTake (i := 5) (v := ?_) rfl (by kernel_rfl) (by kernel_rfl) (by kernel_rfl) (by rfl) ?_ hH ?_
        rotate_left
        · intro W hW; (try dsimp only at hW); go_simp <;> with_reducible rfl
        simp only [Act.put, List.setIfInBounds_toArray, List.set_cons_zero, List.set_cons_succ]
        refine hTake (i := 6) (v := ?_) rfl (by kernel_rfl) (by kernel_rfl) (by kernel_rfl) (by rfl) ?_ hH ?_
        rotate_left
        · intro W hW; (try dsimp only at hW); go_simp <;> with_reducible rfl
        simp only [Act.put, List.setIfInBounds_toArray, List.set_cons_zero, List.set_cons_succ]
        refine hTake (i := 7) (v := ?_) rfl (by kernel_rfl) (by kernel_rfl) (by kernel_rfl) (by rfl) ?_ hH ?_
        rotate_left
        · intro W hW; (try dsimp only at hW); go_simp <;> with_reducible rfl
        simp only [Act.put, List.setIfInBounds_toArray, List.set_cons_zero, List.set_cons_succ]
        refine hTake (i := 8) (v := ?_) rfl (by kernel_rfl) (by kernel_rfl) (by kernel_rfl) (by rfl) ?_ hH ?_
        rotate_left
        · intro W hW; (try dsimp only at hW); go_simp <;> with_reducible rfl
        simp only [Act.put, List.setIfInBounds_toArray, List.set_cons_zero, List.set_cons_succ]
        refine hTake (i := 9) (v := ?_) rfl (by kernel_rfl) (by kernel_rfl) (by kernel_rfl) (by rfl) ?_ hH ?_
        rotate_left
        · intro W hW; (try dsimp only at hW); go_simp <;> with_reducible rfl
        simp only [Act.put, List.setIfInBounds_toArray, List.set_cons_zero, List.set_cons_succ]
        refine hTake (i := 10) (v := ?_) rfl (by kernel_rfl) (by kernel_rfl) (by kernel_rfl) (by rfl) ?_ hH ?_
        rotate_left
        · intro W hW; (try dsimp only at hW); go_simp <;> with_reducible rfl
        simp only [Act.put, List.setIfInBounds_toArray, List.set_cons_zero, List.set_cons_succ]
        refine hTake (i := 11) (v := ?_) rfl (by kernel_rfl) (by kernel_rfl) (by kernel_rfl) (by rfl) ?_ hH ?_
        rotate_left
        · intro W hW; (try dsimp only at hW); go_simp <;> with_reducible rfl
        simp only [Act.put, List.setIfInBounds_toArray, List.set_cons_zero, List.set_cons_succ]
        refine hTake (i := 12) (v := ?_) rfl (by kernel_rfl) (by kernel_rfl) (by kernel_rfl) (by rfl) ?_ hH ?_
        rotate_left
        · intro W hW; (try dsimp only at hW); go_simp <;> with_reducible rfl
        simp only [Act.put, List.setIfInBounds_toArray, List.set_cons_zero, List.set_cons_succ]
        refine hTake (i := 13) (v := ?_) rfl (by kernel_rfl) (by kernel_rfl) (by kernel_rfl) (by rfl) ?_ hH ?_
        rotate_left
        · intro W hW; (try dsimp only at hW); go_simp <;> with_reducible rfl
        simp only [Act.put, List.setIfInBounds_toArray, List.set_cons_zero, List.set_cons_succ]
        refine hTake (i := 14) (v := ?_) rfl (by kernel_rfl) (by kernel_rfl) (by kernel_rfl) (by rfl) ?_ hH ?_
        rotate_left
        · intro W hW; (try dsimp only at hW); go_simp <;> with_reducible rfl
        simp only [Act.put, List.setIfInBounds_toArray, List.set_cons_zero, List.set_cons_succ]
        refine hTake (i := 15) (v := ?_) rfl (by kernel_rfl) (by kernel_rfl) (by kernel_rfl) (by rfl) ?_ hH ?_
        rotate_left
        · intro W hW; (try dsimp only at hW); go_simp <;> with_reducible rfl
        simp only [Act.put, List.setIfInBounds_toArray, List.set_cons_zero, List.set_cons_succ]
        refine wpAnyH_ready (rs := [16]) (by kernel_rfl) (by simp) ?_
        refine AllReadyH.cons rfl (fun K hK => ?_) AllReadyH.nil
        go_simp
        refine (specSet_any a' m c' ry rx rn _ _ (owns_cells (owns_below own hH.2.2.2)) (by omega)).mono ?_
        rintro e w2 ⟨a5, m5, c5, rfl, o5, b5⟩
        rw [HSR.out] at o5
        have b5' := hH.2.2.2.trans (b5.mono hH.2.2.2.size)
        have o5 := owns_base (base' := wr.heap.size) o5 hH.2.2.2.size
        go_wp2_with fail
        refine hK.out _ _ ?_ (fun hH => ?_)
        · exact ⟨keep_cell b5 hH.1, keep_cell b5 hH.2.1, keep_cell b5 hH.2.2.1, b5'⟩
        clear hK K
        refine hTake (i := 17) (v := ?_) rfl (by kernel_rfl) (by kernel_rfl) (by kernel_rfl) (by rfl) ?_ hH ?_
        rotate_left
        · intro W hW; (try dsimp only at hW); go_simp <;> with_reducible rfl
        simp only [Act.put, List.setIfInBounds_toArray, List.set_cons_zero, List.set_cons_succ]
        refine wpAnyH_done (by kernel_rfl) ?_ _
        refine NoPanic.normal ?_
        have hm5 := owns_lenR o5
        have hm6 : m5 ≤ 100 := by rw [hm5]; exact Ch.rowsS_len _
        have hR := block_belowV b5' hR
        have b6 := hB.trans (b5'.mono hB.size)
        have hs6 : w.heap.size + 1 ≤ w2.heap.size := Nat.le_trans hsz b5'.size
        have o5 := owns_base (base' := w.heap.size + 1) o5 hsz
        clear hm5 hH
        go_wp2
        go_roundw
        case rel => exact ⟨k + 1, m5, a5, c5, by omega, by go_num, rfl, by rw [HYS.out]; exact o5, hR, hs6, b6⟩
        case measure => simp [intOf]; omega
    · obtain rfl : k = n2 := by omega
      have HKL : Hid (k = rs.length) := HL.out
      rw [HKL.out, hS1] at own
      generalize wr = wA at *
      clear hS1 HBR HY
      have LR := owns_lt own
      have IC := fun W hW => specLosers_any a2 k c2 rs W hW (by omega)
      go_wp2_with fail
      refine (IC _ (h2.below hB)).mono ?_
      rintro e w2 ⟨a6, m6, c6, rfl, hm6, o6, b2⟩
      clear IC
      have b2' := hB.trans (b2.mono hB.size)
      have own := owns_below own b2
      have hR := block_belowV b2 hR
      have L6 := owns_lt o6
      have z2 := b2.size
      have k7 : Below w2.heap.size w2 (w2.alloc (.cells #[.int .i64 0, .slice a6 m6 c6, .slice none 0 0] 28)) := (Below.refl _ _).alloc (Nat.le_refl _) _
      have hX := heap_alloc_new w2 (.cells #[.int .i64 0, .slice a6 m6 c6, .slice none 0 0] 28)
      have b7' := b2'.trans (k7.mono b2'.size)
      have hCb := backs_at (w2.heap.size + 1) a2 k c2 rs (w2.alloc (.cells #[.int .i64 0, .slice a6 m6 c6, .slice none 0 0] 28)) (by simp) (h2.below b7') hn8 HZ.out.2
      have own := owns_below own k7
      have o6 := owns_below o6 k7
      have hR := block_belowV k7 hR
      go_wp2_with fail
      refine hCb.mono ?_
      rintro e w3 ⟨rfl, o7, b3⟩
      clear hCb
      have own := owns_below own b3
      have o6 := owns_below o6 b3
      have hR := block_belowV b3 hR
      have hX := block_belowV b3 hX
      have b3' := b7'.trans (b3.mono b7'.size)
      have z3 := (owns_lt o7 _ rfl).2
      have ap0 : ∀ g, (Value.slice a' m c').ownBlock = some g → g < wA.heap.size ∨ w2.heap.size + 2 ≤ g := fun g hg => .inl (LR g hg).2
      have bS : ∀ t, 0 ≤ (Ch.Bs.mk S1 (fun t => (Ch.fate rs t).bk)).b t ∧ (Ch.Bs.mk S1 (fun t => (Ch.fate rs t).bk)).b t ≤ 800 := fun t => by have h1 := Ch.fate_bk rs t; have h2 := HZ.out.1; simp only; omega
      have HBK := hid (fun l => Ch.backTo_b (L := fun t => (Ch.fate rs t).lost) (m := 800) l bS)
      clear bS b2 b3 k7 LR
      have HD0 : Hid ((rs.drop k).reverse = []) := by show _ = _; rw [HKL.out]; simp
      go_wp2
      go_loopw [5, 9] (fun q i wq => ∃ (j m : Nat) (a' : Option Addr) (c' : Nat), j ≤ k ∧ m ≤ 100 ∧ i = .int .i64 ((j : Int) - 1) ∧ q = .slice a' m c' ∧ wq.ownsRow (w.heap.size + 1) 44 3 (.slice a' m c') m (rcells (Ch.rowsS (Ch.backTo (fun t => (Ch.fate rs t).lost) ⟨S1, fun t => (Ch.fate rs t).bk⟩ (rs.drop j).reverse).s)) ∧ wq.ownsRow (w2.heap.size + 1) 2 1 (.slice (some ⟨w2.heap.size + 1, 0, none⟩) 1000 1000) 1000 (icells (Ch.bkL (Ch.backTo (fun t => (Ch.fate rs t).lost) ⟨S1, fun t => (Ch.fate rs t).bk⟩ (rs.drop j).reverse).b)) ∧ (∀ g, (Value.slice a' m c').ownBlock = some g → g < wA.heap.size ∨ w2.heap.size + 2 ≤ g) ∧ wq.ownsRow wA.heap.size 2 1 (.slice a6 m6 c6) m6 (icells (Ch.losL rs)) ∧ wq.heap[w2.heap.size]? = some (.cells #[.int .i64 0, .slice a6 m6 c6, .slice none 0 0] 28 (0, 0)) ∧ wq.heap[w.heap.size]? = some (.cells #[.int .i64 0, .slice none 0 0, .slice none 0 0] 28 (0, 0)) ∧ w2.heap.size + 2 ≤ wq.heap.size ∧ Below w.heap.size w wq) (fun _ i _ => (intOf i + 1).toNat)
      case atStart => exact ⟨k, m, a', c', Nat.le_refl _, hm1, by go_num, rfl, by rw [HD0.out]; exact own, by rw [HD0.out]; exact o7, ap0, o6, hX, hR, by omega, b3'⟩
      case round =>
        clear own o7 ap0 o6 hX hR b3' hm1
        obtain ⟨j, m, a', c', hj, hm1, rfl, rfl, own, o7, ap, o6, hX, hR, hs9, hB9⟩ := hrel
        cases j with
        | zero =>
          have e0 : ((0 : Nat) : Int) - 1 = -1 := rfl
          rw [e0]
          rw [List.drop_zero] at own
          obtain ⟨x0, x1, x2, f0, f1, f2⟩ := row3V hX
          obtain ⟨y0, y1, y2, g0, g1, g2⟩ := row3V hR
          have lx := lt_of_cell x0
          have ly := lt_of_cell y0
          have nexy : ¬ w2.heap.size = w.heap.size := by omega
          have neyx : ¬ w.heap.size = w2.heap.size := by omega
          go_wp2
          refine bodyPost_ret (v := .agg #[.int .i64 0, .slice a6 m6 c6, .slice a' m c']) (by simp [results, Tryz.results29, go_sem, x0, x1, x2, y0, y1, y2, nexy, neyx]) rfl ⟨a6, m6, c6, a', m, c', rfl, by omega, by omega, ?_, ?_, ?_, ?_⟩
          · have o := owns_grown o6 (gr_setW (s := w2.heap.size) (o := 2) (v := .slice a' m c')) (fun g hg hk => by have := L6 g hg; cases hk; omega)
            refine owns_base (base := wA.heap.size) (ownsRow_setCell_below (ownsRow_setCell_below (ownsRow_setCell_below o ?_ _) ?_ _) ?_ _) (by omega)
            all_goals (show w.heap.size < wA.heap.size; omega)
          · have o := owns_grown own (gr_setW (s := w2.heap.size) (o := 2) (v := .slice a' m c')) (fun g hg hk => by have := ap g hg; cases hk; omega)
            refine owns_base (base := w.heap.size + 1) (ownsRow_setCell_below (ownsRow_setCell_below (ownsRow_setCell_below o ?_ _) ?_ _) ?_ _) (by omega)
            all_goals (show w.heap.size < w.heap.size + 1; omega)
          · intro g hg hg'
            have h8 := L6 g hg
            have h9 := ap g hg'
            omega
          · exact (((hB9.setCell (p := ⟨w2.heap.size, 2, none⟩) (by show w.heap.size ≤ w2.heap.size; omega) _).setCell (p := ⟨w.heap.size, 0, none⟩) (Nat.le_refl _) _).setCell (p := ⟨w.heap.size, 1, none⟩) (Nat.le_refl _) _).setCell (p := ⟨w.heap.size, 2, none⟩) (Nat.le_refl _) _
        | succ j =>
          have e1 : ((j + 1 : Nat) : Int) - 1 = (j : Int) := by omega
          rw [e1]
          have hjl : j < rs.length := by have := HL.out; omega
          have HT := hid (Ch.Rec.fit (HZ.out.2 j hjl))
          have HD := hid (Ch.drop_rev hjl)
          have HB2 := hid (HBK.out (rs.drop (j + 1)).reverse)
          have HST : Hid ((Ch.backTo (fun t => (Ch.fate rs t).lost) ⟨S1, fun t => (Ch.fate rs t).bk⟩ (rs.drop j).reverse) = Ch.back1 (fun t => (Ch.fate rs t).lost) (Ch.backTo (fun t => (Ch.fate rs t).lost) ⟨S1, fun t => (Ch.fate rs t).bk⟩ (rs.drop (j + 1)).reverse) (rs.getD j Ch.Rec.zero)) := by show _ = _; rw [HD.out, Ch.backTo_snoc]
          obtain ⟨b, off, rfl, q0, q1, q2, q3, q4, q5, q6⟩ := (h2.below hB9).rec (k := j) (by omega)
          have hbl := lt_of_cell q0
          have hbl2 : b < w.heap.size := lt_of_cells7 h2 (by omega) b off rfl
          generalize rs.getD j Ch.Rec.zero = r at *
          obtain ⟨kd, tx, ky, hd, ol, hs, nw⟩ := r
          simp only at q0 q1 q2 q3 q4 q5 q6
          have htx : 1 ≤ tx ∧ tx ≤ 999 := HT.out.tx
          have hky : 0 ≤ ky ∧ ky ≤ 99 := HT.out.ky
          have HLH := hid (Ch.los_has rs htx)
          have HSK := hid (fun hh => HST.out.trans (Ch.back_skip (r := ⟨kd, tx, ky, hd, ol, hs, nw⟩) hh))
          have HSL := hid (fun hh h0 => HST.out.trans (Ch.back_less (r := ⟨kd, tx, ky, hd, ol, hs, nw⟩) hh h0))
          have HSS := hid (fun hh h0 => HST.out.trans (Ch.back_set (r := ⟨kd, tx, ky, hd, ol, hs, nw⟩) hh h0))
          simp only at HSK HSL HSS
          clear HST HD HT
          generalize hst2 : (Ch.backTo (fun t => (Ch.fate rs t).lost) ⟨S1, fun t => (Ch.fate rs t).bk⟩ (rs.drop (j + 1)).reverse) = st2 at *
          generalize hst1 : (Ch.backTo (fun t => (Ch.fate rs t).lost) ⟨S1, fun t => (Ch.fate rs t).bk⟩ (rs.drop j).reverse) = st1 at *
          have HSR := hid (Ch.setR_rows st2.s hky hd ol)
          have kW : Below wr.heap.size wr (wr.alloc (.cells #[.int .i64 kd, .int .i64 tx, .int .i64 ky, .bool hd, .int .i64 ol, .bool hs, .int .i64 nw] 54)) := (Below.refl _ _).alloc (Nat.le_refl _) _
          have own1 := owns_below own kW
          have o71 := owns_below o7 kW
          have o61 := owns_below o6 kW
          have hX1 := block_belowV kW hX
          have hR1 := block_belowV kW hR
          have b91 := hB9.trans (kW.mono hB9.size)
          have z91 : w2.heap.size + 2 ≤ (wr.alloc (.cells #[.int .i64 kd, .int .i64 tx, .int .i64 ky, .bool hd, .int .i64 ol, .bool hs, .int .i64 nw] 54)).heap.size := by simp; omega
          obtain ⟨x0, x1, x2, f0, f1, f2⟩ := row3V hX
          have lx := lt_of_cell x0
          have IA := fun W hW => amongV_any a6 m6 c6 tx (Ch.losL rs) W hW (by omega)
          rw [HLH.out] at IA
          have hj0 : (0 : Int) ≤ (j : Int) := by omega
          cases hk2 : (kd != 2)
          rotate_left
          · have HQ := hid (HSK.out (by rw [hk2]; rfl))
            clear HSK HSL HSS IA
            go_wp2
            go_roundw
            case rel => exact ⟨j, m, a', c', by omega, hm1, by go_num, rfl, by rw [hst1, HQ.out]; exact own1, by rw [hst1, HQ.out]; exact o71, ap, o61, hX1, hR1, z91, b91⟩
            case measure => simp [intOf]
          · have hh : ∀ b, (Ch.fate rs tx).lost = b → (kd != 2 || !(Ch.fate rs tx).lost) = !b := fun b hb => by rw [hk2, hb]; rfl
            generalize hlb : (Ch.fate rs tx).lost = lb at *
            cases lb
            · have HQ := hid (HSK.out (hh false rfl))
              clear HSK HSL HSS hh
              go_wp2_with (go_at_call 47; refine (IA _ (owns_cells o61)).mono ?_; rintro e w5 ⟨rfl, hw5⟩; obtain rfl := hw5.symm)
              go_roundw
              case rel => exact ⟨j, m, a', c', by omega, hm1, by go_num, rfl, by rw [hst1, HQ.out]; exact own1, by rw [hst1, HQ.out]; exact o71, ap, o61, hX1, hR1, z91, b91⟩
              case measure => simp [intOf]
            · obtain ⟨t, rfl⟩ : ∃ t : Nat, tx = t := ⟨tx.toNat, by omega⟩
              have ht : t < 1000 := by omega
              have HB3 := hid (HB2.out t)
              have c0 := o71.cellAt t (by simp [icells_len, Ch.bkL_len]; omega)
              have e0 : (icells (Ch.bkL st2.b))[t]? = some (.int .i64 (st2.b t)) := by simp [icells, Ch.bkL, ht]
              rw [e0] at c0
              have g0 := o71.frozenAt t
              have hfn : 0 ≤ st2.b t ∧ st2.b t ≤ 800 := HB3.out
              by_cases h0 : 0 < st2.b t
              · have HQ := hid (HSL.out (hh true rfl) h0)
                have hst := o71.stored t (.int .i64 (st2.b t - 1))
                have efn : (fun q => if q = (t : Int) then st2.b q - 1 else st2.b q) = fun q => if q = (t : Int) then st2.b t - 1 else st2.b q := by
                  funext q
                  by_cases e : q = (t : Int)
                  · rw [if_pos e, if_pos e, e]
                  · rw [if_neg e, if_neg e]
                rw [icells_set, Ch.bkL_set _ ht, ← efn] at hst
                have o72 := hst.1
                have gr2 := hst.2
                have own2 := owns_grown own1 gr2 (fun g hg hk => by have := ap g hg; cases hk; omega)
                have o62 := owns_grown o61 gr2 (fun g hg hk => by have := L6 g hg; cases hk; omega)
                have hX2 := block_grownV gr2 hX1 (by simp)
                have hR2 := block_grownV gr2 hR1 (by simp; omega)
                have b92 := b91.grown gr2 b91.size (fun g hg => by cases hg; omega)
                have z92 := Nat.le_trans z91 gr2.size
                clear HSK HSL HSS hh e0 HB2 HB3 hst gr2 efn
                generalize st2.b t = fn at *
                go_wp2_with (go_at_call 47; refine (IA _ (owns_cells o61)).mono ?_; rintro e w5 ⟨rfl, hw5⟩; obtain rfl := hw5.symm)
                go_roundw
                case rel => exact ⟨j, m, a', c', by omega, hm1, by go_num, rfl, by rw [hst1, HQ.out]; exact own2, by rw [hst1, HQ.out]; exact o72, ap, o62, hX2, hR2, z92, b92⟩
                case measure => simp [intOf]
              · have HQ := hid (HSS.out (hh true rfl) h0)
                have IS := fun W hW => specSet_any a' m c' ky hd ol (Ch.rowsS st2.s) W hW (by omega)
                rw [HSR.out] at IS
                clear HSK HSL HSS hh e0 HB2 HB3
                generalize hfn2 : st2.b t = fn at *
                go_wp2_with (first | (go_at_call 47; refine (IA _ (owns_cells o61)).mono ?_; rintro e w5 ⟨rfl, hw5⟩; obtain rfl := hw5.symm) | (go_at_call 44; refine (IS _ (owns_cells own1)).mono ?_; rintro e w6 ⟨a5, m5, c5, rfl, o5, b5⟩))
                have hm5 : m5 ≤ 100 := by rw [owns_lenR o5]; exact Ch.rowsS_len _
                have ap5 : ∀ g, (Value.slice a5 m5 c5).ownBlock = some g → g < wA.heap.size ∨ w2.heap.size + 2 ≤ g := fun g hg => .inr (Nat.le_trans z91 (owns_lt o5 g hg).1)
                have o5 := owns_base (base' := w.heap.size + 1) o5 (Nat.le_trans (by omega) z91)
                have o72 := owns_below o71 b5
                have o62 := owns_below o61 b5
                have hX2 := block_belowV b5 hX1
                have hR2 := block_belowV b5 hR1
                have b92 := b91.trans (b5.mono b91.size)
                have z92 := Nat.le_trans z91 b5.size
                go_roundw
                case rel => exact ⟨j, m5, a5, c5, by omega, hm5, by go_num, rfl, by rw [hst1, HQ.out]; exact o5, by rw [hst1, HQ.out]; exact o72, ap5, o62, hX2, hR2, z92, b92⟩
                case measure => simp [intOf]
end Go.Proofs.YtoijjjckdggglaaGreat


/- RedoRows of the model; what the laws do with its answer. -/
namespace Go.Proofs.YtoijjjckdggglaaGreat
open Go.RowKit

set_option linter.unusedSimpArgs false in
set_option maxRecDepth 20000 in
set_option maxHeartbeats 4000000 in
theorem specRedo_any (a1 : Option Addr) (n1 c1 : Nat) (base : List Ch.Row) (a2 : Option Addr) (n2 c2 : Nat) (rs : List Ch.Rec) (w : World) (h1 : CellsAt w a1 (n1 * 3) (rcells base)) (h2 : CellsAt w a2 (n2 * 7) (rc7 rs)) (hn1 : n1 ≤ 1048576) (hn2 : n2 ≤ 1048576) :
    Calls Tryz.prog 17 #[.slice a1 n1 c1, .slice a2 n2 c2] w fun e w' => ∃ a3 m3 c3 a4 m4 c4, RedoAt w w' e (Ch.redoR base rs) a3 m3 c3 a4 m4 c4 := by
  have IA := fun W hW => specRecs_any a2 n2 c2 rs W hW hn2
  have IB := fun W hW => specBase_any a1 n1 c1 base W hW hn1
  have kA : ∀ o, Below w.heap.size w (w.alloc o) := fun o => (Below.refl _ _).alloc (Nat.le_refl _) o
  obtain ⟨c, HC⟩ : ∃ c, Hid (Ch.recsF rs = c) := ⟨_, rfl⟩
  rw [HC.out] at IA
  by_cases h0 : c = 0
  rotate_left
  · have hc : (c != 0) = true := by simpa using h0
    rw [Ch.redoR_bad HC.out hc]
    clear HC h0 IB
    go_enter Tryz.func17, Tryz.ntmps17
    go_wp2_with fail
    refine (IA _ (h2.below (kA _))).mono ?_
    rintro e w1 ⟨rfl, b1⟩
    have hR := block_belowV b1 (heap_alloc_new w _)
    have b1 := below_box b1
    have lz := (Array.getElem?_eq_some_iff.1 hR).1
    obtain ⟨x0, x1, x2, f0, f1, f2⟩ := row3V hR
    go_wp2
    exact bodyPost_ret (v := .agg #[.int .i64 c, .slice none 0 0, .slice none 0 0]) (by simp [results, Tryz.results17, go_sem, x0, x1, x2]) rfl ⟨none, 0, 0, none, 0, 0, redo_code b1⟩
  subst h0
  obtain ⟨d, HD⟩ : ∃ d, Hid (Ch.baseF base = d) := ⟨_, rfl⟩
  rw [HD.out] at IB
  by_cases h0 : d = 0
  rotate_left
  · have hc : (d != 0) = true := by simpa using h0
    rw [Ch.redoR_base HC.out HD.out hc]
    clear HC HD h0
    go_enter Tryz.func17, Tryz.ntmps17
    go_wp2_with fail
    refine (IA _ (h2.below (kA _))).mono ?_
    rintro e w1 ⟨rfl, b1⟩
    have hR := block_belowV b1 (heap_alloc_new w _)
    have b1 := below_box b1
    clear IA
    go_wp2_with fail
    refine (IB _ (h1.below b1)).mono ?_
    rintro e w2 ⟨rfl, b2⟩
    have hR := block_belowV b2 hR
    have b2' := b1.trans (b2.mono b1.size)
    have lz := (Array.getElem?_eq_some_iff.1 hR).1
    obtain ⟨x0, x1, x2, f0, f1, f2⟩ := row3V hR
    go_wp2
    exact bodyPost_ret (v := .agg #[.int .i64 d, .slice none 0 0, .slice none 0 0]) (by simp [results, Tryz.results17, go_sem, x0, x1, x2]) rfl ⟨none, 0, 0, none, 0, 0, redo_code b2'⟩
  subst h0
  rw [Ch.redoR_ok HC.out HD.out]
  have IR := fun W hW1 hW2 => specRedo1_any a1 n1 c1 base a2 n2 c2 rs W hW1 hW2 HC.out HD.out
  generalize Ch.losL rs = L at *
  generalize Ch.rowsS (Ch.endS base rs).s = R at *
  clear HC HD
  go_enter Tryz.func17, Tryz.ntmps17
  go_wp2_with fail
  refine (IA _ (h2.below (kA _))).mono ?_
  rintro e w1 ⟨rfl, b1⟩
  have hR := block_belowV b1 (heap_alloc_new w _)
  have lz1 := (Array.getElem?_eq_some_iff.1 hR).1
  have b1 := below_box b1
  clear IA
  go_wp2_with fail
  refine (IB _ (h1.below b1)).mono ?_
  rintro e w2 ⟨rfl, b2⟩
  have hR := block_belowV b2 hR
  have b2' := b1.trans (b2.mono b1.size)
  have z2 := b2.size
  clear IB
  go_wp2_with fail
  refine (IR _ (h1.below b2') (h2.below b2')).mono ?_
  rintro e w3 ⟨a3, m3, c3, a4, m4, c4, rfl, hm3, hm4, o3, o4, ap, b3⟩
  clear IR
  have hR := block_belowV b3 hR
  have b3' := b2'.trans (b3.mono b2'.size)
  have lz := (Array.getElem?_eq_some_iff.1 hR).1
  obtain ⟨x0, x1, x2, f0, f1, f2⟩ := row3V hR
  go_wp2
  refine bodyPost_ret (v := .agg #[.int .i64 0, .slice a3 m3 c3, .slice a4 m4 c4]) (by simp [results, Tryz.results17, go_sem, x0, x1, x2]) rfl ⟨a3, m3, c3, a4, m4, c4, rfl, hm3, hm4, ?_, ?_, ap, ?_⟩
  · refine owns_base (base := w2.heap.size) (ownsRow_setCell_below (ownsRow_setCell_below (ownsRow_setCell_below o3 ?_ _) ?_ _) ?_ _) (by omega)
    all_goals (show w.heap.size < w2.heap.size; omega)
  · refine owns_base (base := w2.heap.size) (ownsRow_setCell_below (ownsRow_setCell_below (ownsRow_setCell_below o4 ?_ _) ?_ _) ?_ _) (by omega)
    all_goals (show w.heap.size < w2.heap.size; omega)
  · exact ((b3'.setCell (p := ⟨w.heap.size, 0, none⟩) (Nat.le_refl _) _).setCell (p := ⟨w.heap.size, 1, none⟩) (Nat.le_refl _) _).setCell (p := ⟨w.heap.size, 2, none⟩) (Nat.le_refl _) _

set_option maxHeartbeats 1000000 in
theorem eqRecover_same (c : Int) (a a' : Option Addr) (n cap cap' : Nat) (L : List Int) (d d' : Option Addr) (m cd cd' : Nat) (R : List Ch.Row) (w : World) (h : CellsAt w a (n * 1) (icells L)) (h' : CellsAt w a' (n * 1) (icells L)) (g : CellsAt w d (m * 3) (rcells R)) (g' : CellsAt w d' (m * 3) (rcells R)) (hn : n ≤ 4194304) (hm : m ≤ 4194304) :
    Calls Tryz.prog 9 #[.agg #[.int .i64 c, .slice a n cap, .slice d m cd], .agg #[.int .i64 c, .slice a' n cap', .slice d' m cd']] w fun e w' => e = .returned (.bool true) ∧ Below w.heap.size w w' := by
  have hcc : (c != c) = false := by simp
  have b0 : Below w.heap.size w ((w.alloc (.cells #[.int .i64 c, .slice a n cap, .slice d m cd] 28)).alloc (.cells #[.int .i64 c, .slice a' n cap', .slice d' m cd'] 28)) := ((Below.refl _ _).alloc (Nat.le_refl _) _).alloc (by simp) _
  have x2 : ((w.alloc (.cells #[.int .i64 c, .slice a n cap, .slice d m cd] 28)).alloc (.cells #[.int .i64 c, .slice a' n cap', .slice d' m cd'] 28)).cell? ⟨w.heap.size, 2, none⟩ = some (.slice d m cd) := keep_cell ((Below.refl _ _).alloc (Nat.le_refl _) _) (cell_of_row _ _ _ _ _ _ (heap_alloc_new w _))
  have y2 : ((w.alloc (.cells #[.int .i64 c, .slice a n cap, .slice d m cd] 28)).alloc (.cells #[.int .i64 c, .slice a' n cap', .slice d' m cd'] 28)).cell? ⟨w.heap.size + 1, 2, none⟩ = some (.slice d' m cd') := by
    have := cell_of_row _ (w.heap.size + 1) 2 _ _ _ (heap_alloc_at (w.alloc (.cells #[.int .i64 c, .slice a n cap, .slice d m cd] 28)) (o := .cells #[.int .i64 c, .slice a' n cap', .slice d' m cd'] 28) (by simp))
    exact this
  go_enter Tryz.func9, Tryz.ntmps9
  go_wp2_with fail
  refine (eqInts_same a a' n cap cap' L _ (h.below b0) (h'.below b0) hn).mono ?_
  rintro e w1 ⟨rfl, b1⟩
  have x2 := keep_cell b1 x2
  have y2 := keep_cell b1 y2
  have b1' := b0.trans (b1.mono (by simp; omega))
  clear b0 b1
  go_wp2_with fail
  refine (eqRowS_same d d' m cd cd' R _ (g.below b1') (g'.below b1') (by omega)).mono ?_
  rintro e w2 ⟨rfl, b2⟩
  go_wp2
  go_ret
  exact ⟨rfl, b1'.trans (b2.mono b1'.size)⟩

set_option maxHeartbeats 1000000 in
theorem markRecover_any (c : Int) (B : Nat) (a : Option Addr) (n cap : Nat) (L : List Int) (d : Option Addr) (m cd : Nat) (R : List Ch.Row) (w : World) (h : w.ownsRow B 2 1 (.slice a n cap) n (icells L)) (g : w.ownsRow B 44 3 (.slice d m cd) m (rcells R)) (ap : ∀ q, (Value.slice a n cap).ownBlock = some q → (Value.slice d m cd).ownBlock ≠ some q) (hn : n ≤ 1048576) (hm : m ≤ 1048576) :
    Calls Tryz.prog 14 #[.agg #[.int .i64 c, .slice a n cap, .slice d m cd], .int .i64 1] w fun e w' => e = .returned (.int .i64 (1 + n + 3 * m)) ∧ w'.ownsRow B 2 1 (.slice a n cap) n (icells (imarks 1 n)) ∧ w'.ownsRow B 44 3 (.slice d m cd) m (rcells (rmarks (1 + n) m)) ∧ ∃ wm, w.grownBy wm (Value.slice a n cap).ownBlock ∧ wm.grownBy w' (Value.slice d m cd).ownBlock := by
  have LA := owns_lt h
  have LD := owns_lt g
  have x2 : (w.alloc (.cells #[.int .i64 c, .slice a n cap, .slice d m cd] 28)).cell? ⟨w.heap.size, 2, none⟩ = some (.slice d m cd) := cell_of_row _ _ _ _ _ _ (heap_alloc_new w _)
  have bA : Below w.heap.size w (w.alloc (.cells #[.int .i64 c, .slice a n cap, .slice d m cd] 28)) := (Below.refl _ _).alloc (Nat.le_refl _) _
  have g1 := owns_below g bA
  go_enter Tryz.func14, Tryz.ntmps14
  go_wp2_with fail
  refine (markInts_any 1 B n a cap L _ (by decide) (by decide) (h.alloc _) (by omega)).mono ?_
  rintro e w1 ⟨rfl, own1, gr1⟩
  have x2 := grown_cell gr1 x2 (fun hk => by have := (LA _ hk).2; omega)
  have g2 := owns_grown g1 gr1 (fun q hq hk => ap q hk hq)
  have gr1 := gr_alloc gr1
  clear bA g1
  go_wp2_with fail
  refine (markRowS_own (1 + n) B m d cd R _ (by omega) (by omega) g2 (by omega)).mono ?_
  rintro e w2 ⟨rfl, own2, gr2⟩
  have own1 := owns_grown own1 gr2 (fun q hq hk => ap q hq hk)
  go_wp2
  go_ret
  exact ⟨rfl, own1, own2, w1, gr1, gr2⟩

set_option maxHeartbeats 1000000 in
theorem heldRecover_any (c : Int) (a : Option Addr) (n cap : Nat) (d : Option Addr) (m cd : Nat) (w : World) (h : CellsAt w a (n * 1) (icells (imarks 1 n))) (g : CellsAt w d (m * 3) (rcells (rmarks (1 + n) m))) (hn : n ≤ 1048576) (hm : m ≤ 1048576) :
    Calls Tryz.prog 15 #[.agg #[.int .i64 c, .slice a n cap, .slice d m cd], .int .i64 1] w fun e w' => e = .returned (.int .i64 (1 + n + 3 * m)) ∧ Below w.heap.size w w' := by
  have bA : Below w.heap.size w (w.alloc (.cells #[.int .i64 c, .slice a n cap, .slice d m cd] 28)) := (Below.refl _ _).alloc (Nat.le_refl _) _
  have hi := heldInts_any 1 a n cap _ (by decide) (by decide) (h.below bA) (by omega)
  have hc := heldRowS_any (1 + n) d m cd _ (by omega) (by omega) (g.below bA) (by omega)
  generalize hk1 : (1 + (n : Int)) = k1 at *
  have i1 : ¬ k1 < 0 := by omega
  generalize hk2 : k1 + 3 * (m : Int) = k2 at *
  have i2 : ¬ k2 < 0 := by omega
  clear hk1 hk2 g h
  go_enter Tryz.func15, Tryz.ntmps15
  go_wp2_with fail
  refine hi.mono ?_
  rintro e w1 ⟨rfl, hw1⟩
  obtain rfl := hw1.symm
  go_wp2_with fail
  refine hc.mono ?_
  rintro e w2 ⟨rfl, hw2⟩
  obtain rfl := hw2.symm
  go_wp2
  go_ret
  exact ⟨rfl, bA⟩
end Go.Proofs.YtoijjjckdggglaaGreat

