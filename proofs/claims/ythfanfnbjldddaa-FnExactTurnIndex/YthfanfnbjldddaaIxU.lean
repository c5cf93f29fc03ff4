
/- TurnIndex of the program. -/
import Derived.Test.YthfanfnbjldddaaIxT
namespace Go.Proofs.Ythfanfnbjldddaa
open Go.RowKit Go.Maps

theorem Ch.tf_zero {ps : List Ch.Hold} {key : Int} {old now : Ch.Bf} (h : Ch.turnF ps key old now = 0) : Ch.ixFault ps = 0 ∧ Ch.befFault [old, now] = 0 ∧ old.k = key ∧ now.k = key := by
  unfold Ch.turnF at h
  by_cases h1 : (Ch.ixFault ps != 0) = true
  · rw [if_pos h1] at h; rw [h] at h1; cases h1
  rw [if_neg h1] at h
  by_cases h2 : (Ch.befFault [old, now] != 0) = true
  · rw [if_pos h2] at h; rw [h] at h2; cases h2
  rw [if_neg h2] at h
  by_cases h3 : (old.k != key || now.k != key) = true
  · rw [if_pos h3] at h; cases h
  simp only [Bool.or_eq_true, not_or] at h3
  exact ⟨by simpa using h1, by simpa using h2, by simpa using h3.1, by simpa using h3.2⟩
theorem Ch.sortE_id {l : List Ch.Hold} (h : Ch.SortE l) : Ch.sortE l = l := Ch.sort_same (Ch.sortE_sort l) h fun _ => Ch.sortE_mem
theorem Ch.filter_sort {l : List Ch.Hold} (h : Ch.SortE l) (p : Ch.Hold → Bool) : Ch.SortE (l.filter p) := List.Pairwise.filter _ h
theorem Ch.turn_no {ps : List Ch.Hold} {key : Int} {now : Ch.Bf} (h : Ch.SortE ps) (hh : now.h = false) : Ch.turnL ps key now = Ch.sortE (ps.filter fun p => p.m != key) := by
  unfold Ch.turnL
  rw [hh, Ch.sortE_id (Ch.filter_sort h _)]; rfl
theorem Ch.turn_yes {ps : List Ch.Hold} {key : Int} {now : Ch.Bf} (h : Ch.SortE ps) (hh : now.h = true) : Ch.turnL ps key now = Ch.sortE ((ps.filter fun p => p.m != key) ++ [⟨now.v, key⟩]) := by
  unfold Ch.turnL
  rw [hh, Ch.sortE_snoc, Ch.sortE_id (Ch.filter_sort h _)]; rfl

set_option linter.unusedSimpArgs false in
set_option maxRecDepth 20000 in
set_option maxHeartbeats 4000000 in
theorem implTurn_any (a : Option Addr) (n cap : Nat) (key ok : Int) (oh : Bool) (ov nk : Int) (nh : Bool) (nv : Int) (ps : List Ch.Hold) (w : World) (h : CellsAt w a (n * 2) (hcells ps)) (hn : n ≤ 1048576) :
    Calls Try.prog 47 #[.slice a n cap, .int .i64 key, .agg #[.int .i64 ok, .bool oh, .int .i64 ov], .agg #[.int .i64 nk, .bool nh, .int .i64 nv]] w fun e w' => ∃ a' m c', e = .returned (.agg #[.int .i64 (Ch.turnR ps key ⟨ok, oh, ov⟩ ⟨nk, nh, nv⟩).1, .slice a' m c']) ∧ m ≤ 1048576 ∧ w'.ownsRow w.heap.size 60 2 (.slice a' m c') m (hcells (Ch.turnR ps key ⟨ok, oh, ov⟩ ⟨nk, nh, nv⟩).2) ∧ Below w.heap.size w w' := by
  have IT := fun W hW => turnFault_any a n cap key ok oh ov nk nh nv ps W hW hn
  have HL := h.hlen
  have kA : Below w.heap.size w (((w.alloc (.cells #[.int .i64 ok, .bool oh, .int .i64 ov] 32)).alloc (.cells #[.int .i64 nk, .bool nh, .int .i64 nv] 32)).alloc (.cells #[.int .i64 0, .slice none 0 0] 71)) := (((Below.refl _ _).alloc (Nat.le_refl _) _).alloc (by simp) _).alloc (by simp; omega) _
  have k1 : Below (w.alloc (.cells #[.int .i64 ok, .bool oh, .int .i64 ov] 32)).heap.size (w.alloc (.cells #[.int .i64 ok, .bool oh, .int .i64 ov] 32)) (((w.alloc (.cells #[.int .i64 ok, .bool oh, .int .i64 ov] 32)).alloc (.cells #[.int .i64 nk, .bool nh, .int .i64 nv] 32)).alloc (.cells #[.int .i64 0, .slice none 0 0] 71)) := ((Below.refl _ _).alloc (Nat.le_refl _) _).alloc (by simp) _
  have hO := block_below k1 (heap_alloc_new w _)
  have k2 : Below ((w.alloc (.cells #[.int .i64 ok, .bool oh, .int .i64 ov] 32)).alloc (.cells #[.int .i64 nk, .bool nh, .int .i64 nv] 32)).heap.size ((w.alloc (.cells #[.int .i64 ok, .bool oh, .int .i64 ov] 32)).alloc (.cells #[.int .i64 nk, .bool nh, .int .i64 nv] 32)) (((w.alloc (.cells #[.int .i64 ok, .bool oh, .int .i64 ov] 32)).alloc (.cells #[.int .i64 nk, .bool nh, .int .i64 nv] 32)).alloc (.cells #[.int .i64 0, .slice none 0 0] 71)) := (Below.refl _ _).alloc (Nat.le_refl _) _
  have hN := block_below k2 (heap_alloc_new (w.alloc (.cells #[.int .i64 ok, .bool oh, .int .i64 ov] 32)) _)
  rw [show (w.alloc (.cells #[.int .i64 ok, .bool oh, .int .i64 ov] 32)).heap.size = w.heap.size + 1 by simp] at hN
  have hR := heap_alloc_new ((w.alloc (.cells #[.int .i64 ok, .bool oh, .int .i64 ov] 32)).alloc (.cells #[.int .i64 nk, .bool nh, .int .i64 nv] 32)) (.cells #[.int .i64 0, .slice none 0 0] 71)
  rw [show ((w.alloc (.cells #[.int .i64 ok, .bool oh, .int .i64 ov] 32)).alloc (.cells #[.int .i64 nk, .bool nh, .int .i64 nv] 32)).heap.size = w.heap.size + 2 by simp] at hR
  obtain ⟨x0, x1, x2⟩ := row3' hO
  obtain ⟨u0, u1, u2⟩ := row3' hN
  clear k1 k2
  obtain ⟨c, HC⟩ : ∃ c, Hid (Ch.turnF ps key ⟨ok, oh, ov⟩ ⟨nk, nh, nv⟩ = c) := ⟨_, rfl⟩
  rw [HC.out] at IT
  by_cases h0 : c = 0
  rotate_left
  · have hc : (c != 0) = true := by simpa using h0
    rw [Ch.turnR_code HC.out hc]
    clear HC h0
    go_enter Try.func47, Try.ntmps47
    go_wp2_with fail
    refine (IT _ (h.below kA)).mono ?_
    rintro e w1 ⟨rfl, b1⟩
    have hR1 := block_below b1 hR
    have B1 := kA.trans (b1.mono (by simp; omega))
    have lz := (Array.getElem?_eq_some_iff.1 hR1).1
    obtain ⟨y0, y1, f0, f1⟩ := row2 hR1
    clear x0 x1 x2 u0 u1 u2
    go_wp2
    exact bodyPost_ret (v := .agg #[.int .i64 c, .slice none 0 0]) (by simp [results, Try.results47, go_sem, y0, y1]) rfl ⟨none, 0, 0, rfl, by omega, World.ownsRow_nil _ _ _ _, (B1.setCell (p := ⟨w.heap.size + 2, 0, none⟩) (by show w.heap.size ≤ w.heap.size + 2; omega) _).setCell (p := ⟨w.heap.size + 2, 1, none⟩) (by show w.heap.size ≤ w.heap.size + 2; omega) _⟩
  subst h0
  rw [Ch.turnR_ok HC.out]
  obtain ⟨hix, hbf, e1, e2⟩ := Ch.tf_zero HC.out
  simp only at e1 e2
  subst e1
  subst e2
  have HX := hid (Ch.ix_good hix)
  have hkey := inB_key (Ch.bef_two hbf).1
  have hkk := kk_key hkey.1 hkey.2
  have BK := fun W hW => byKey_any a n cap ps W hW (by have := HX.out.len; have := HL.out; omega) HX.out.key
  have hn2 : n ≤ 240 := by have := HX.out.len; have := HL.out; omega
  have HY := hid (fun hh => Ch.turn_yes (key := nk) (now := ⟨nk, nh, nv⟩) HX.out.sort hh)
  have HNo := hid (fun hh => Ch.turn_no (key := nk) (now := ⟨nk, nh, nv⟩) HX.out.sort hh)
  simp only at HY HNo
  generalize Ch.turnL ps nk ⟨nk, nh, nv⟩ = res at *
  clear HC hix hbf
  go_enter Try.func47, Try.ntmps47
  go_wp2_with fail
  refine (IT _ (h.below kA)).mono ?_
  rintro e w1 ⟨rfl, b1⟩
  have hR1 := block_below b1 hR
  have hN1 := block_below b1 hN
  have B1 := kA.trans (b1.mono (by simp; omega))
  clear x0 x1 x2 u0 u1 u2 hO hN hR IT kA b1
  go_wp2_with fail
  refine (BK _ (h.below B1)).mono ?_
  rintro e w2 ⟨D, rfl, own, hP, b2⟩
  have HMP := hid ((MpK.all (by rw [← HL.out]; exact hP) HX.out.nd).del nk)
  have hR2 := block_below b2 hR1
  have hN2 := block_below b2 hN1
  have B2 := B1.trans (b2.mono B1.size)
  have lm := (Array.getElem?_eq_some_iff.1 hR1).1
  have ln := (Array.getElem?_eq_some_iff.1 hN1).1
  clear hP hR1 hN1 BK b2
  cases nh
  · go_wp2_with (at_delete; go_must (refine wpList_delete_own _ rfl _ _ 118 2 rfl 60 Try.keyed Try.underlying118 plElem w1.heap.size n D rfl own _ _ rfl hkk ?_; intro w3 own3 hturn3; have gr3 := hturn3.grown; have hR3 := block_grown gr3 hR2 (fun e => by have e := Option.some.inj e; omega); have hN3 := block_grown gr3 hN2 (fun e => by have e := Option.some.inj e; omega); have B3 := B2.grown gr3 B2.size (fun g hg => by cases hg; omega); obtain ⟨u0, u1, u2⟩ := row3' hN3; have lu := lt_of_cell u0))
    have hsz := own3.size_le
    have hz3 := B3.size
    go_wp2_with fail
    refine (sortedP_any w1.heap.size n (D.del (kk nk)) _ _ own3 HMP.out (by omega)).mono ?_
    rintro e w5 ⟨a5, m5, c5, rfl, hm5, o5, b5⟩
    have hR5 := block_below b5 hR3
    have B5 := B3.trans (b5.mono B3.size)
    have lz := (Array.getElem?_eq_some_iff.1 hR5).1
    have l3 := (Array.getElem?_eq_some_iff.1 hR3).1
    obtain ⟨y0, y1, f0, f1⟩ := row2 hR5
    go_wp2
    refine bodyPost_ret (v := .agg #[.int .i64 0, .slice a5 m5 c5]) (by simp [results, Try.results47, go_sem, y0, y1]) rfl ⟨a5, m5, c5, rfl, hm5, ?_, (B5.setCell (p := ⟨w.heap.size + 2, 0, none⟩) (by show w.heap.size ≤ w.heap.size + 2; omega) _).setCell (p := ⟨w.heap.size + 2, 1, none⟩) (by show w.heap.size ≤ w.heap.size + 2; omega) _⟩
    rw [HNo.out (by first | rfl | trivial)]
    refine owns_base (base := w3.heap.size) (ownsRow_setCell_below (ownsRow_setCell_below o5 ?_ _) ?_ _) hz3
    · show w.heap.size + 2 < w3.heap.size; exact l3
    · show w.heap.size + 2 < w3.heap.size; exact l3
  · go_wp2_with (at_delete; go_must (refine wpList_delete_own _ rfl _ _ 118 2 rfl 60 Try.keyed Try.underlying118 plElem w1.heap.size n D rfl own _ _ rfl hkk ?_; intro w3 own3 hturn3; have gr3 := hturn3.grown; have hR3 := block_grown gr3 hR2 (fun e => by have e := Option.some.inj e; omega); have hN3 := block_grown gr3 hN2 (fun e => by have e := Option.some.inj e; omega); have B3 := B2.grown gr3 B2.size (fun g hg => by cases hg; omega); obtain ⟨u0, u1, u2⟩ := row3' hN3; have lu := lt_of_cell u0))
    have PO := fun W => pairOf_any nk true nv W
    go_wp2_with fail
    refine (PO _).mono ?_
    rintro e w4 ⟨rfl, b4⟩
    have own4 : w4.ownsMap Try.prog 2 plElem w1.heap.size n (D.del (kk nk)) := own3.kept (row := none) ⟨b4.os, b4.tape, b4.output, b4.size, fun k hk _ => b4.block k hk⟩ (by simp)
    have hR4 := block_below b4 hR3
    have B4 := B3.trans (b4.mono B3.size)
    have l4 := (Array.getElem?_eq_some_iff.1 hR4).1
    have HM4 := hid (HMP.out.put own4.isMap ⟨nv, nk⟩ (fun q hq => by have := (List.mem_filter.1 hq).2; simpa using this))
    clear PO own3 hN3 hR3 u0 u1 u2 lu b4
    go_wp2_with (at_mapUpdate; go_must (refine wpList_mapUpdate_own _ rfl _ _ _ 118 rfl 2 60 Try.keyed Try.underlying118 plElem w1.heap.size n (D.del (kk nk)) rfl own4 ?_ _ _ _ rfl rfl hkk _ [] (plElem_mk _ _) ?_; (focus (unfold maxLen; omega)); intro w6 own6 gr6; have hR6 := block_grown gr6 hR4 (fun e => by have e := Option.some.inj e; omega); have B6 := B4.grown gr6 B4.size (fun g hg => by cases hg; omega); have hsz := own6.size_le; go_frame))
    refine (sortedP_any w1.heap.size (n + 1) _ _ _ own6 HM4.out (Nat.le_trans hsz (by omega))).mono ?_
    rintro e w5 ⟨a5, m5, c5, rfl, hm5, o5, b5⟩
    have hR5 := block_below b5 hR6
    have B5 := B6.trans (b5.mono B6.size)
    have lz := (Array.getElem?_eq_some_iff.1 hR5).1
    have l6 := (Array.getElem?_eq_some_iff.1 hR6).1
    have hz6 := B6.size
    obtain ⟨y0, y1, f0, f1⟩ := row2 hR5
    go_wp2
    refine bodyPost_ret (v := .agg #[.int .i64 0, .slice a5 m5 c5]) (by simp [results, Try.results47, go_sem, y0, y1]) rfl ⟨a5, m5, c5, rfl, hm5, ?_, (B5.setCell (p := ⟨w.heap.size + 2, 0, none⟩) (by show w.heap.size ≤ w.heap.size + 2; omega) _).setCell (p := ⟨w.heap.size + 2, 1, none⟩) (by show w.heap.size ≤ w.heap.size + 2; omega) _⟩
    rw [HY.out (by first | rfl | trivial)]
    refine owns_base (base := w6.heap.size) (ownsRow_setCell_below (ownsRow_setCell_below o5 ?_ _) ?_ _) hz6
    · show w.heap.size + 2 < w6.heap.size; exact l6
    · show w.heap.size + 2 < w6.heap.size; exact l6
end Go.Proofs.Ythfanfnbjldddaa
