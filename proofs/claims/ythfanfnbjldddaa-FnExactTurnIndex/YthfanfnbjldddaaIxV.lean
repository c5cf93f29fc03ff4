
/- TurnIndex of the model. -/
import Derived.Test.YthfanfnbjldddaaIxU
import Derived.Test.YthfanfnbjldddaaIxO
namespace Go.Proofs.Ythfanfnbjldddaa
open Go.RowKit

def Ch.offP (ps : List Ch.Hold) (key : Int) : List Ch.Hold := ps.filter fun p => p.m != key
theorem Ch.offP_yes {ps : List Ch.Hold} {key : Int} {k : Nat} (h : k < ps.length) (hc : ((ps.getD k Ch.Hold.zero).m != key) = true) : Ch.offP (ps.take (k + 1)) key = Ch.offP (ps.take k) key ++ [ps.getD k Ch.Hold.zero] := by
  unfold Ch.offP
  rw [Ch.take_snoc ps Ch.Hold.zero k h, List.filter_append]
  generalize ps.getD k Ch.Hold.zero = x at *
  rw [List.filter_cons_of_pos (p := fun p : Ch.Hold => p.m != key) hc]; rfl
theorem Ch.offP_no {ps : List Ch.Hold} {key : Int} {k : Nat} (h : k < ps.length) (hc : ((ps.getD k Ch.Hold.zero).m != key) = false) : Ch.offP (ps.take (k + 1)) key = Ch.offP (ps.take k) key := by
  unfold Ch.offP
  rw [Ch.take_snoc ps Ch.Hold.zero k h, List.filter_append]
  generalize ps.getD k Ch.Hold.zero = x at *
  rw [List.filter_cons_of_neg (p := fun p : Ch.Hold => p.m != key) (by rw [hc]; simp)]; simp
theorem Ch.turnL_no {ps : List Ch.Hold} {key nk nv : Int} : Ch.turnL ps key ⟨nk, false, nv⟩ = Ch.offP ps key := rfl
theorem Ch.turnL_yes {ps : List Ch.Hold} {key nk nv : Int} : Ch.turnL ps key ⟨nk, true, nv⟩ = Ch.insP (Ch.offP ps key) ⟨nv, key⟩ := by
  rw [Ch.insP_insE]
  · rfl
  · intro hm
    have := (List.mem_filter.1 hm).2
    simp at this

set_option linter.unusedSimpArgs false in
set_option maxRecDepth 20000 in
set_option maxHeartbeats 4000000 in
theorem l9Turn_any (a : Option Addr) (n cap : Nat) (key nk : Int) (nh : Bool) (nv : Int) (ps : List Ch.Hold) (w : World) (h : CellsAt w a (n * 2) (hcells ps)) (hn : n ≤ 1048575) :
    Calls Try.prog 96 #[.slice a n cap, .int .i64 key, .agg #[.int .i64 nk, .bool nh, .int .i64 nv]] w fun e w' => ∃ g' m c', e = .returned (.slice (some ⟨g', 0, none⟩) m c') ∧ m ≤ n + 1 ∧ w'.ownsRow w.heap.size 60 2 (.slice (some ⟨g', 0, none⟩) m c') m (hcells (Ch.turnL ps key ⟨nk, nh, nv⟩)) ∧ Below w.heap.size w w' := by
  have HL := h.hlen
  obtain ⟨i0, hi0, hz0, hz1, hz2⟩ := info_parts Try.info60
  have oE := own_empty (w.alloc (.cells #[.int .i64 nk, .bool nh, .int .i64 nv] 32)) (w.heap.size + 1) 60 2 (by simp)
  rw [show (w.alloc (.cells #[.int .i64 nk, .bool nh, .int .i64 nv] 32)).heap.size = w.heap.size + 1 by simp] at oE
  have kE : Below w.heap.size w ((w.alloc (.cells #[.int .i64 nk, .bool nh, .int .i64 nv] 32)).alloc (.cells #[] 60)) := ((Below.refl _ _).alloc (Nat.le_refl _) _).alloc (by simp) _
  have hN : ((w.alloc (.cells #[.int .i64 nk, .bool nh, .int .i64 nv] 32)).alloc (.cells #[] 60)).heap[w.heap.size]? = some (.cells #[.int .i64 nk, .bool nh, .int .i64 nv] 32 (0, 0)) := block_below ((Below.refl _ _).alloc (Nat.le_refl _) _) (heap_alloc_new w _)
  go_enter Try.func96, Try.ntmps96
  go_wp2
  go_loopw [7, 8] (fun q i wr => ∃ (k m : Nat) (a' : Option Addr) (c' : Nat), k ≤ n ∧ m ≤ k ∧ i = .int .i64 k ∧ q = .slice a' m c' ∧ (∃ g, a' = some ⟨g, 0, none⟩) ∧ wr.ownsRow (w.heap.size + 1) 60 2 (.slice a' m c') m (hcells (Ch.offP (ps.take k) key)) ∧ wr.heap[w.heap.size]? = some (.cells #[.int .i64 nk, .bool nh, .int .i64 nv] 32 (0, 0)) ∧ w.heap.size + 1 ≤ wr.heap.size ∧ Below w.heap.size w wr) (fun _ i _ => n - (intOf i).toNat)
  case atStart => exact ⟨0, 0, _, _, Nat.zero_le _, Nat.le_refl _, rfl, rfl, ⟨_, rfl⟩, oE, hN, by simp, kE⟩
  case round =>
    clear oE kE hN
    obtain ⟨k, m, a', c', hk, hmk, rfl, rfl, hsm, own, hN, hsz, hB⟩ := hrel
    by_cases hlt : k < n
    · have hkl : k < ps.length := by have := HL.out; omega
      have HY := hid (fun he => Ch.offP_yes (key := key) hkl he)
      have HN := hid (fun he => Ch.offP_no (key := key) hkl he)
      obtain ⟨b, off, rfl, q0, q1⟩ := (h.below hB).hold hlt
      have hbl := lt_of_cell q0
      generalize ps.getD k Ch.Hold.zero = r at *
      obtain ⟨rt, rm⟩ := r
      simp only at q0 q1 HY HN
      generalize Ch.offP (ps.take k) key = zs at *
      have hsum : m + 1 ≤ 4194304 := by omega
      by_cases hh : rm = key
      · have e1 : (rm != key) = false := by simpa using hh
        replace HN := hid (HN.out e1)
        clear HY hh
        go_wp2
        go_roundw
        case rel => exact ⟨k + 1, m, a', c', by omega, by omega, by go_num, rfl, hsm, by rw [HN.out]; exact own, hN, hsz, hB⟩
        case measure => simp [intOf]; omega
      · have e1 : (rm != key) = true := by simpa using hh
        replace HY := hid (HY.out e1)
        clear HN hh
        have kQ : Below wr.heap.size wr (wr.alloc (.cells #[.int .i64 rt, .int .i64 rm] 60)) := (Below.refl _ _).alloc (Nat.le_refl _) _
        have own3 := owns_below own kQ
        have hN3 := block_below kQ hN
        have hC3 := new_hold wr rt rm 60
        have hb3 : w.heap.size + 1 ≤ (wr.alloc (.cells #[.int .i64 rt, .int .i64 rm] 60)).heap.size := by simp; omega
        have b3 := hB.trans (kQ.mono hB.size)
        go_wp2_with (at_builtin; go_must (refine wpList_appX Try.underlying52 Try.underlying52 hi0 hz0 hz1 hz2 rfl (by omega) (by omega) (.tmp 23) (.tmp 28) ?_ ?_ (w.heap.size + 1) (.slice a' m c') m (hcells zs) _ 1 1 (hcells [⟨rt, rm⟩]) ?_ ?_ own3 hC3 (hcells_one' _) hsum hb3 ?_; exact rfl; exact rfl; exact rfl; exact rfl; intro a5 c5 w5 own5 gr5 at5; go_frame))
        go_roundw
        case rel =>
          have hs5 := own_at own5 (by omega)
          rw [← hcells_append, ← HY.out] at own5
          exact ⟨k + 1, m + 1, a5, c5, by omega, by omega, by go_num, rfl, hs5, own5, block_grown gr5 hN3 (own_apart own3 (by omega)), Nat.le_trans hb3 gr5.size, b3.grown gr5 b3.size (fun g hg => by have := (owns_lt own3 g hg).1; omega)⟩
        case measure => simp [intOf]; omega
    · obtain rfl : k = n := by omega
      have HWF : Hid (ps.take k = ps) := by have := HL.out; show _ = _; rw [this]; exact List.take_length
      rw [HWF.out] at own
      obtain ⟨g, rfl⟩ := hsm
      obtain ⟨u0, u1, u2⟩ := row3' hN
      have lu := lt_of_cell u0
      cases nh
      · go_wp2
        go_ret
        exact ⟨g, m, c', rfl, by omega, by rw [Ch.turnL_no]; exact owns_base own (by omega), hB⟩
      · go_wp2_with fail
        refine (l9Put_any (w.heap.size + 1) g m c' (Ch.offP ps key) nv key _ own (by omega) hsz).mono ?_
        rintro e w9 ⟨g9, n9, c9, rfl, own9, hn9, b9⟩
        go_wp2
        go_ret
        exact ⟨g9, n9, c9, rfl, by omega, by rw [Ch.turnL_yes]; exact owns_base own9 (by omega), hB.trans (b9.mono hB.size)⟩

theorem Ch.there_next {ps : List Ch.Hold} {key : Int} {k : Nat} (h : k < ps.length) : Ch.thereP (ps.take (k + 1)) key = (Ch.thereP (ps.take k) key || (ps.getD k Ch.Hold.zero).m == key) := by
  unfold Ch.thereP
  rw [Ch.take_snoc ps Ch.Hold.zero k h, List.any_append]; simp
theorem Ch.right_next {ps : List Ch.Hold} {key v : Int} {k : Nat} (h : k < ps.length) : Ch.rightP (ps.take (k + 1)) key v = (Ch.rightP (ps.take k) key v || ((ps.getD k Ch.Hold.zero).m == key && (ps.getD k Ch.Hold.zero).t == v)) := by
  unfold Ch.rightP
  rw [Ch.take_snoc ps Ch.Hold.zero k h, List.any_append]; simp
theorem Ch.there_alone {ps : List Ch.Hold} {key : Int} {k : Nat} (hn : (Ch.keysOf ps).Nodup) (h : k < ps.length) (hk : (ps.getD k Ch.Hold.zero).m = key) : Ch.thereP (ps.take k) key = false := by
  unfold Ch.thereP
  rw [List.any_eq_false]
  intro p hp hc
  have hc : p.m = key := by simpa using hc
  have hp' : p.m ∈ Ch.keysOf (ps.take k) := List.mem_map.2 ⟨p, hp, rfl⟩
  obtain ⟨j, hj, he⟩ := (Ch.mem_keys (by omega)).1 hp'
  have := Ch.dup_found hj h (by rw [he, hc, hk])
  simp [Ch.ixDup, hn] at this

set_option linter.unusedSimpArgs false in
set_option maxRecDepth 20000 in
set_option maxHeartbeats 4000000 in
theorem specTurn_any (a : Option Addr) (n cap : Nat) (key ok : Int) (oh : Bool) (ov nk : Int) (nh : Bool) (nv : Int) (ps : List Ch.Hold) (w : World) (h : CellsAt w a (n * 2) (hcells ps)) (hn : n ≤ 1048576) :
    Calls Try.prog 45 #[.slice a n cap, .int .i64 key, .agg #[.int .i64 ok, .bool oh, .int .i64 ov], .agg #[.int .i64 nk, .bool nh, .int .i64 nv]] w fun e w' => ∃ a' m c', e = .returned (.agg #[.int .i64 (Ch.turnR ps key ⟨ok, oh, ov⟩ ⟨nk, nh, nv⟩).1, .slice a' m c']) ∧ m ≤ 1048576 ∧ w'.ownsRow w.heap.size 60 2 (.slice a' m c') m (hcells (Ch.turnR ps key ⟨ok, oh, ov⟩ ⟨nk, nh, nv⟩).2) ∧ Below w.heap.size w w' := by
  have IX := fun W hW => specIx_any a n cap ps W hW hn
  have HL := h.hlen
  have kA : Below w.heap.size w (((w.alloc (.cells #[.int .i64 ok, .bool oh, .int .i64 ov] 32)).alloc (.cells #[.int .i64 nk, .bool nh, .int .i64 nv] 32)).alloc (.cells #[.int .i64 0, .slice none 0 0] 71)) := (((Below.refl _ _).alloc (Nat.le_refl _) _).alloc (by simp) _).alloc (by simp; omega) _
  have k1 : Below (w.alloc (.cells #[.int .i64 ok, .bool oh, .int .i64 ov] 32)).heap.size (w.alloc (.cells #[.int .i64 ok, .bool oh, .int .i64 ov] 32)) (((w.alloc (.cells #[.int .i64 ok, .bool oh, .int .i64 ov] 32)).alloc (.cells #[.int .i64 nk, .bool nh, .int .i64 nv] 32)).alloc (.cells #[.int .i64 0, .slice none 0 0] 71)) := ((Below.refl _ _).alloc (Nat.le_refl _) _).alloc (by simp) _
  have hO := block_below k1 (heap_alloc_new w _)
  have k2 : Below ((w.alloc (.cells #[.int .i64 ok, .bool oh, .int .i64 ov] 32)).alloc (.cells #[.int .i64 nk, .bool nh, .int .i64 nv] 32)).heap.size ((w.alloc (.cells #[.int .i64 ok, .bool oh, .int .i64 ov] 32)).alloc (.cells #[.int .i64 nk, .bool nh, .int .i64 nv] 32)) (((w.alloc (.cells #[.int .i64 ok, .bool oh, .int .i64 ov] 32)).alloc (.cells #[.int .i64 nk, .bool nh, .int .i64 nv] 32)).alloc (.cells #[.int .i64 0, .slice none 0 0] 71)) := (Below.refl _ _).alloc (Nat.le_refl _) _
  have hN := block_below k2 (heap_alloc_new (w.alloc (.cells #[.int .i64 ok, .bool oh, .int .i64 ov] 32)) _)
  rw [show (w.alloc (.cells #[.int .i64 ok, .bool oh, .int .i64 ov] 32)).heap.size = w.heap.size + 1 by simp] at hN
  have hR := heap_alloc_new ((w.alloc (.cells #[.int .i64 ok, .bool oh, .int .i64 ov] 32)).alloc (.cells #[.int .i64 nk, .bool nh, .int .i64 nv] 32)) (.cells #[.int .i64 0, .slice none 0 0] 71)
  rw [show ((w.alloc (.cells #[.int .i64 ok, .bool oh, .int .i64 ov] 32)).alloc (.cells #[.int .i64 nk, .bool nh, .int .i64 nv] 32)).heap.size = w.heap.size + 2 by simp] at hR
  obtain ⟨x0, x1, x2⟩ := row3' hO
  obtain ⟨u0, u1, u2⟩ := row3' hN
  clear k1 k2
  obtain ⟨c, HC⟩ : ∃ c, Hid (Ch.ixFault ps = c) := ⟨_, rfl⟩
  rw [HC.out] at IX
  by_cases h0 : c = 0
  rotate_left
  · have hc : (c != 0) = true := by simpa using h0
    rw [Ch.turnR_code (Ch.tf_code HC.out hc) hc]
    clear HC h0
    go_enter Try.func45, Try.ntmps45
    go_wp2_with fail
    refine (IX _ (h.below kA)).mono ?_
    rintro e w1 ⟨rfl, b1⟩
    have hO1 := block_below b1 hO
    have hN1 := block_below b1 hN
    have hR1 := block_below b1 hR
    have B1 := kA.trans (b1.mono (by simp; omega))
    clear x0 x1 x2 u0 u1 u2
    have lz := (Array.getElem?_eq_some_iff.1 hR1).1
    obtain ⟨y0, y1, f0, f1⟩ := row2 hR1
    go_wp2
    exact bodyPost_ret (v := .agg #[.int .i64 c, .slice none 0 0]) (by simp [results, Try.results45, go_sem, y0, y1]) rfl ⟨none, 0, 0, rfl, by omega, World.ownsRow_nil _ _ _ _, (B1.setCell (p := ⟨w.heap.size + 2, 0, none⟩) (by show w.heap.size ≤ w.heap.size + 2; omega) _).setCell (p := ⟨w.heap.size + 2, 1, none⟩) (by show w.heap.size ≤ w.heap.size + 2; omega) _⟩
  subst h0
  obtain ⟨cb, HB⟩ : ∃ cb, Hid (Ch.befFault [⟨ok, oh, ov⟩, ⟨nk, nh, nv⟩] = cb) := ⟨_, rfl⟩
  by_cases hb0 : cb = 0
  rotate_left
  · have hc : (cb != 0) = true := by simpa using hb0
    rw [Ch.turnR_code (Ch.tf_bef HC.out HB.out hc) hc]
    clear HC hb0
    go_enter Try.func45, Try.ntmps45
    go_wp2_with fail
    refine (IX _ (h.below kA)).mono ?_
    rintro e w1 ⟨rfl, b1⟩
    have hO1 := block_below b1 hO
    have hN1 := block_below b1 hN
    have hR1 := block_below b1 hR
    have B1 := kA.trans (b1.mono (by simp; omega))
    clear x0 x1 x2 u0 u1 u2
    have ll := (Array.getElem?_eq_some_iff.1 hR1).1
    obtain ⟨x0, x1, x2⟩ := row3' hO1
    obtain ⟨u0, u1, u2⟩ := row3' hN1
    have hT := new_befs w1 ok oh ov nk nh nv 32
    have kT : Below w1.heap.size w1 (w1.alloc (.cells #[.int .i64 ok, .bool oh, .int .i64 ov, .int .i64 nk, .bool nh, .int .i64 nv] 32)) := (Below.refl _ _).alloc (Nat.le_refl _) _
    go_wp2_with fail
    refine (specBefores_any _ 2 2 [⟨ok, oh, ov⟩, ⟨nk, nh, nv⟩] _ hT (by omega)).mono ?_
    rintro e w2 ⟨rfl, b2⟩
    rw [HB.out]
    have kT2 := kT.trans (b2.mono (by simp))
    have hO2 := block_below kT2 hO1
    have hN2 := block_below kT2 hN1
    have hR2 := block_below kT2 hR1
    have B2 := B1.trans (kT2.mono B1.size)
    clear hO1 hN1 hR1 x0 x1 x2 u0 u1 u2 hT kT b2 kT2 b1 ll
    have lz := (Array.getElem?_eq_some_iff.1 hR2).1
    obtain ⟨y0, y1, f0, f1⟩ := row2 hR2
    go_wp2
    exact bodyPost_ret (v := .agg #[.int .i64 cb, .slice none 0 0]) (by simp [results, Try.results45, go_sem, y0, y1]) rfl ⟨none, 0, 0, rfl, by omega, World.ownsRow_nil _ _ _ _, (B2.setCell (p := ⟨w.heap.size + 2, 0, none⟩) (by show w.heap.size ≤ w.heap.size + 2; omega) _).setCell (p := ⟨w.heap.size + 2, 1, none⟩) (by show w.heap.size ≤ w.heap.size + 2; omega) _⟩
  subst hb0
  by_cases hk1 : ok = key
  rotate_left
  · have e1 : (ok != key) = true := by simpa using hk1
    rw [Ch.turnR_code (Ch.tf_form HC.out HB.out (by simp only; rw [e1]; rfl)) rfl]
    clear HC hk1
    go_enter Try.func45, Try.ntmps45
    go_wp2_with fail
    refine (IX _ (h.below kA)).mono ?_
    rintro e w1 ⟨rfl, b1⟩
    have hO1 := block_below b1 hO
    have hN1 := block_below b1 hN
    have hR1 := block_below b1 hR
    have B1 := kA.trans (b1.mono (by simp; omega))
    clear x0 x1 x2 u0 u1 u2
    have ll := (Array.getElem?_eq_some_iff.1 hR1).1
    obtain ⟨x0, x1, x2⟩ := row3' hO1
    obtain ⟨u0, u1, u2⟩ := row3' hN1
    have hT := new_befs w1 ok oh ov nk nh nv 32
    have kT : Below w1.heap.size w1 (w1.alloc (.cells #[.int .i64 ok, .bool oh, .int .i64 ov, .int .i64 nk, .bool nh, .int .i64 nv] 32)) := (Below.refl _ _).alloc (Nat.le_refl _) _
    go_wp2_with fail
    refine (specBefores_any _ 2 2 [⟨ok, oh, ov⟩, ⟨nk, nh, nv⟩] _ hT (by omega)).mono ?_
    rintro e w2 ⟨rfl, b2⟩
    rw [HB.out]
    have kT2 := kT.trans (b2.mono (by simp))
    have hO2 := block_below kT2 hO1
    have hN2 := block_below kT2 hN1
    have hR2 := block_below kT2 hR1
    have B2 := B1.trans (kT2.mono B1.size)
    clear hO1 hN1 hR1 x0 x1 x2 u0 u1 u2 hT kT b2 kT2 b1 ll
    obtain ⟨x0, x1, x2⟩ := row3' hO2
    have lz := (Array.getElem?_eq_some_iff.1 hR2).1
    obtain ⟨y0, y1, f0, f1⟩ := row2 hR2
    go_wp2
    exact bodyPost_ret (v := .agg #[.int .i64 1, .slice none 0 0]) (by simp [results, Try.results45, go_sem, y0, y1]) rfl ⟨none, 0, 0, rfl, by omega, World.ownsRow_nil _ _ _ _, (B2.setCell (p := ⟨w.heap.size + 2, 0, none⟩) (by show w.heap.size ≤ w.heap.size + 2; omega) _).setCell (p := ⟨w.heap.size + 2, 1, none⟩) (by show w.heap.size ≤ w.heap.size + 2; omega) _⟩
  subst hk1
  have e1 : (ok != ok) = false := by simp
  by_cases hk2 : nk = ok
  rotate_left
  · have e2 : (nk != ok) = true := by simpa using hk2
    rw [Ch.turnR_code (Ch.tf_form HC.out HB.out (by simp only; rw [e1, e2]; rfl)) rfl]
    clear HC hk2
    go_enter Try.func45, Try.ntmps45
    go_wp2_with fail
    refine (IX _ (h.below kA)).mono ?_
    rintro e w1 ⟨rfl, b1⟩
    have hO1 := block_below b1 hO
    have hN1 := block_below b1 hN
    have hR1 := block_below b1 hR
    have B1 := kA.trans (b1.mono (by simp; omega))
    clear x0 x1 x2 u0 u1 u2
    have ll := (Array.getElem?_eq_some_iff.1 hR1).1
    obtain ⟨x0, x1, x2⟩ := row3' hO1
    obtain ⟨u0, u1, u2⟩ := row3' hN1
    have hT := new_befs w1 ok oh ov nk nh nv 32
    have kT : Below w1.heap.size w1 (w1.alloc (.cells #[.int .i64 ok, .bool oh, .int .i64 ov, .int .i64 nk, .bool nh, .int .i64 nv] 32)) := (Below.refl _ _).alloc (Nat.le_refl _) _
    go_wp2_with fail
    refine (specBefores_any _ 2 2 [⟨ok, oh, ov⟩, ⟨nk, nh, nv⟩] _ hT (by omega)).mono ?_
    rintro e w2 ⟨rfl, b2⟩
    rw [HB.out]
    have kT2 := kT.trans (b2.mono (by simp))
    have hO2 := block_below kT2 hO1
    have hN2 := block_below kT2 hN1
    have hR2 := block_below kT2 hR1
    have B2 := B1.trans (kT2.mono B1.size)
    clear hO1 hN1 hR1 x0 x1 x2 u0 u1 u2 hT kT b2 kT2 b1 ll
    obtain ⟨x0, x1, x2⟩ := row3' hO2
    obtain ⟨u0, u1, u2⟩ := row3' hN2
    have lz := (Array.getElem?_eq_some_iff.1 hR2).1
    obtain ⟨y0, y1, f0, f1⟩ := row2 hR2
    go_wp2
    exact bodyPost_ret (v := .agg #[.int .i64 1, .slice none 0 0]) (by simp [results, Try.results45, go_sem, y0, y1]) rfl ⟨none, 0, 0, rfl, by omega, World.ownsRow_nil _ _ _ _, (B2.setCell (p := ⟨w.heap.size + 2, 0, none⟩) (by show w.heap.size ≤ w.heap.size + 2; omega) _).setCell (p := ⟨w.heap.size + 2, 1, none⟩) (by show w.heap.size ≤ w.heap.size + 2; omega) _⟩
  have e2 : (nk != ok) = false := by simpa using hk2
  have HT := hid (Ch.tf_last (key := ok) HC.out HB.out (by simp only; rw [e1, e2]; rfl))
  simp only at HT
  have HX := hid (Ch.ix_good HC.out)
  have hn2 : n ≤ 240 := by have := HX.out.len; have := HL.out; omega
  have HRC := hid (fun c (hh : Ch.turnF ps ok ⟨ok, oh, ov⟩ ⟨nk, nh, nv⟩ = c) (hc : (c != 0) = true) => Ch.turnR_code hh hc)
  have HRO := hid (fun (hh : Ch.turnF ps ok ⟨ok, oh, ov⟩ ⟨nk, nh, nv⟩ = 0) => Ch.turnR_ok hh)
  have LT := fun W hW => l9Turn_any a n cap ok nk nh nv ps W hW (by omega)
  generalize Ch.turnR ps ok ⟨ok, oh, ov⟩ ⟨nk, nh, nv⟩ = R at *
  generalize Ch.turnF ps ok ⟨ok, oh, ov⟩ ⟨nk, nh, nv⟩ = TF at *
  generalize Ch.turnL ps ok ⟨nk, nh, nv⟩ = TL at *
  clear HC hk2
  go_enter Try.func45, Try.ntmps45
  go_wp2_with fail
  refine (IX _ (h.below kA)).mono ?_
  rintro e w1 ⟨rfl, b1⟩
  have hO1 := block_below b1 hO
  have hN1 := block_below b1 hN
  have hR1 := block_below b1 hR
  have B1 := kA.trans (b1.mono (by simp; omega))
  clear x0 x1 x2 u0 u1 u2
  have ll := (Array.getElem?_eq_some_iff.1 hR1).1
  obtain ⟨x0, x1, x2⟩ := row3' hO1
  obtain ⟨u0, u1, u2⟩ := row3' hN1
  have hT := new_befs w1 ok oh ov nk nh nv 32
  have kT : Below w1.heap.size w1 (w1.alloc (.cells #[.int .i64 ok, .bool oh, .int .i64 ov, .int .i64 nk, .bool nh, .int .i64 nv] 32)) := (Below.refl _ _).alloc (Nat.le_refl _) _
  go_wp2_with fail
  refine (specBefores_any _ 2 2 [⟨ok, oh, ov⟩, ⟨nk, nh, nv⟩] _ hT (by omega)).mono ?_
  rintro e w2 ⟨rfl, b2⟩
  rw [HB.out]
  have kT2 := kT.trans (b2.mono (by simp))
  have hO2 := block_below kT2 hO1
  have hN2 := block_below kT2 hN1
  have hR2 := block_below kT2 hR1
  have B2 := B1.trans (kT2.mono B1.size)
  clear hO1 hN1 hR1 x0 x1 x2 u0 u1 u2 hT kT b2 kT2 b1 ll
  obtain ⟨x0, x1, x2⟩ := row3' hO2
  obtain ⟨u0, u1, u2⟩ := row3' hN2
  go_wp2
  go_loopw [11, 12, 13] (fun th ri i wr => ∃ k : Nat, k ≤ n ∧ i = .int .i64 k ∧ th = .bool (Ch.thereP (ps.take k) ok) ∧ ri = .bool (Ch.rightP (ps.take k) ok ov) ∧ Below w2.heap.size w2 wr) (fun _ _ i _ => n - (intOf i).toNat)
  case atStart => exact ⟨0, Nat.zero_le _, rfl, rfl, rfl, Below.refl _ _⟩
  case round =>
    clear x0 x1 x2 u0 u1 u2
    obtain ⟨k, hk, rfl, rfl, rfl, hB⟩ := hrel
    have hOr := block_below hB hO2
    have hNr := block_below hB hN2
    have hRr := block_below hB hR2
    obtain ⟨x0, x1, x2⟩ := row3' hOr
    obtain ⟨u0, u1, u2⟩ := row3' hNr
    have Br := B2.trans (hB.mono B2.size)
    have lx := lt_of_cell x0
    have lu := lt_of_cell u0
    by_cases hlt : k < n
    · have hkl : k < ps.length := by have := HL.out; omega
      have HTn := hid (Ch.there_next (key := ok) hkl)
      have HRn := hid (Ch.right_next (key := ok) (v := ov) hkl)
      have HA := hid (fun he => Ch.there_alone (key := ok) HX.out.nd hkl he)
      obtain ⟨b, off, rfl, q0, q1⟩ := (h.below Br).hold hlt
      have hbl := lt_of_cell q0
      generalize ps.getD k Ch.Hold.zero = r at *
      obtain ⟨rt, rm⟩ := r
      simp only at q0 q1 HTn HRn HA
      by_cases hm : rm = ok
      · have d1 : (rm == ok) = true := by simpa using hm
        have hal := HA.out hm
        have hnr := Ch.right_no (v := ov) hal
        rw [d1, Bool.or_true] at HTn
        rw [d1, hnr, Bool.false_or, Bool.true_and] at HRn
        clear HA hm hal hnr
        generalize Ch.thereP (ps.take k) ok = T0 at *
        generalize Ch.rightP (ps.take k) ok ov = R0 at *
        go_wp2_with fail
        refine wp_region_noPanic ?_
        refine wp_region_held_drew (S := fun W' => W'.cell? ⟨b, off + k * 2, none⟩ = some (.int .i64 rt) ∧ W'.cell? ⟨w.heap.size, 2, none⟩ = some (.int .i64 ov) ∧ Below w2.heap.size w2 W') (by kernel_rfl) (⟨q0, x2, hB.drew⟩) (fun hH => ?_)
        refine hTake (i := 0) (v := ?_) rfl (by kernel_rfl) (by kernel_rfl) (by kernel_rfl) (by rfl) ?_ hH ?_
        rotate_left
        · intro W hW; (try dsimp only at hW); go_simp <;> with_reducible rfl
        simp only [Act.put, List.setIfInBounds_toArray, List.set_cons_zero, List.set_cons_succ]
        refine hTake (i := 1) (v := ?_) rfl (by kernel_rfl) (by kernel_rfl) (by kernel_rfl) (by rfl) ?_ hH ?_
        rotate_left
        · intro W hW; (try dsimp only at hW); go_simp <;> with_reducible rfl
        simp only [Act.put, List.setIfInBounds_toArray, List.set_cons_zero, List.set_cons_succ]
        refine hTake (i := 2) (v := ?_) rfl (by kernel_rfl) (by kernel_rfl) (by kernel_rfl) (by rfl) ?_ hH ?_
        rotate_left
        · intro W hW; (try dsimp only at hW); go_simp <;> with_reducible rfl
        simp only [Act.put, List.setIfInBounds_toArray, List.set_cons_zero, List.set_cons_succ]
        refine hTake (i := 3) (v := ?_) rfl (by kernel_rfl) (by kernel_rfl) (by kernel_rfl) (by rfl) ?_ hH ?_
        rotate_left
        · intro W hW; (try dsimp only at hW); go_simp <;> with_reducible rfl
        simp only [Act.put, List.setIfInBounds_toArray, List.set_cons_zero, List.set_cons_succ]
        refine hTake (i := 4) (v := ?_) rfl (by kernel_rfl) (by kernel_rfl) (by kernel_rfl) (by rfl) ?_ hH ?_
        rotate_left
        · intro W hW; (try dsimp only at hW); go_simp <;> with_reducible rfl
        simp only [Act.put, List.setIfInBounds_toArray, List.set_cons_zero, List.set_cons_succ]
        refine hTake (i := 5) (v := ?_) rfl (by kernel_rfl) (by kernel_rfl) (by kernel_rfl) (by rfl) ?_ hH ?_
        rotate_left
        · intro W hW; (try dsimp only at hW); go_simp <;> with_reducible rfl
        simp only [Act.put, List.setIfInBounds_toArray, List.set_cons_zero, List.set_cons_succ]
        refine hTake (i := 6) (v := ?_) rfl (by kernel_rfl) (by kernel_rfl) (by kernel_rfl) (by rfl) ?_ hH ?_
        rotate_left
        · intro W hW; (try dsimp only at hW); go_simp <;> with_reducible rfl
        simp only [Act.put, List.setIfInBounds_toArray, List.set_cons_zero, List.set_cons_succ]
        refine hTake (i := 7) (v := ?_) rfl (by kernel_rfl) (by kernel_rfl) (by kernel_rfl) (by rfl) ?_ hH ?_
        rotate_left
        · intro W hW; (try dsimp only at hW); go_simp <;> with_reducible rfl
        simp only [Act.put, List.setIfInBounds_toArray, List.set_cons_zero, List.set_cons_succ]
        refine hTake (i := 8) (v := ?_) rfl (by kernel_rfl) (by kernel_rfl) (by kernel_rfl) (by rfl) ?_ hH ?_
        rotate_left
        · intro W hW; (try dsimp only at hW); go_simp <;> with_reducible rfl
        simp only [Act.put, List.setIfInBounds_toArray, List.set_cons_zero, List.set_cons_succ]
        refine wpAnyH_done (by kernel_rfl) ?_ _
        refine NoPanic.normal ?_
        have hB' := hH.2.2
        clear hH
        go_wp2
        go_roundw
        case rel => exact ⟨k + 1, by omega, by go_num, by rw [HTn.out], by rw [HRn.out], hB'⟩
        case measure => simp [intOf]; omega
      · have d1 : (rm == ok) = false := by simpa using hm
        rw [d1, Bool.or_false] at HTn
        rw [d1, Bool.false_and, Bool.or_false] at HRn
        rw [← HTn.out, ← HRn.out]
        clear HA hm
        go_wp2
        go_roundw
        case rel => exact ⟨k + 1, by omega, by go_num, rfl, rfl, hB⟩
        case measure => simp [intOf]; omega
    · obtain rfl : k = n := by omega
      have HWF : Hid (ps.take k = ps) := by have := HL.out; show _ = _; rw [this]; exact List.take_length
      rw [HWF.out]
      have lz := (Array.getElem?_eq_some_iff.1 hRr).1
      obtain ⟨y0, y1, f0, f1⟩ := row2 hRr
      have HNR := hid (fun ht => Ch.right_no (ps := ps) (key := ok) (v := ov) ht)
      generalize Ch.thereP ps ok = T0 at *
      generalize Ch.rightP ps ok ov = R0 at *
      clear HWF HX hO2 hN2 hR2
      cases oh
      · cases T0
        · have HZ := hid (HRO.out HT.out)
          go_wp2_with fail
          refine (LT _ (h.below Br)).mono ?_
          rintro e w5 ⟨g5, m5, c5, rfl, hm5, o5, b5⟩
          have hR5 := block_below b5 hRr
          have B5 := Br.trans (b5.mono Br.size)
          have lz5 := (Array.getElem?_eq_some_iff.1 hR5).1
          obtain ⟨z0, z1, d0, d1⟩ := row2 hR5
          clear y0 y1 f0 f1 x0 x1 x2 u0 u1 u2
          go_wp2
          refine bodyPost_ret (v := .agg #[.int .i64 0, .slice (some ⟨g5, 0, none⟩) m5 c5]) (by simp [results, Try.results45, go_sem, z0, z1]) rfl ⟨_, m5, c5, by rw [HZ.out], by omega, ?_, (B5.setCell (p := ⟨w.heap.size + 2, 0, none⟩) (by show w.heap.size ≤ w.heap.size + 2; omega) _).setCell (p := ⟨w.heap.size + 2, 1, none⟩) (by show w.heap.size ≤ w.heap.size + 2; omega) _⟩
          rw [HZ.out]
          refine owns_base (base := wr.heap.size) (ownsRow_setCell_below (ownsRow_setCell_below o5 ?_ _) ?_ _) Br.size
          · show w.heap.size + 2 < wr.heap.size; exact lz
          · show w.heap.size + 2 < wr.heap.size; exact lz
        · have HZ := hid (HRC.out 7 HT.out rfl)
          go_wp2
          exact bodyPost_ret (v := .agg #[.int .i64 7, .slice none 0 0]) (by simp [results, Try.results45, go_sem, y0, y1]) rfl ⟨none, 0, 0, by rw [HZ.out], by omega, by rw [HZ.out]; exact World.ownsRow_nil _ _ _ _, (Br.setCell (p := ⟨w.heap.size + 2, 0, none⟩) (by show w.heap.size ≤ w.heap.size + 2; omega) _).setCell (p := ⟨w.heap.size + 2, 1, none⟩) (by show w.heap.size ≤ w.heap.size + 2; omega) _⟩
      · cases T0
        · have hr0 := HNR.out rfl
          subst hr0
          have HZ := hid (HRC.out 4 HT.out rfl)
          go_wp2
          exact bodyPost_ret (v := .agg #[.int .i64 4, .slice none 0 0]) (by simp [results, Try.results45, go_sem, y0, y1]) rfl ⟨none, 0, 0, by rw [HZ.out], by omega, by rw [HZ.out]; exact World.ownsRow_nil _ _ _ _, (Br.setCell (p := ⟨w.heap.size + 2, 0, none⟩) (by show w.heap.size ≤ w.heap.size + 2; omega) _).setCell (p := ⟨w.heap.size + 2, 1, none⟩) (by show w.heap.size ≤ w.heap.size + 2; omega) _⟩
        · cases R0
          · have HZ := hid (HRC.out 4 HT.out rfl)
            go_wp2
            exact bodyPost_ret (v := .agg #[.int .i64 4, .slice none 0 0]) (by simp [results, Try.results45, go_sem, y0, y1]) rfl ⟨none, 0, 0, by rw [HZ.out], by omega, by rw [HZ.out]; exact World.ownsRow_nil _ _ _ _, (Br.setCell (p := ⟨w.heap.size + 2, 0, none⟩) (by show w.heap.size ≤ w.heap.size + 2; omega) _).setCell (p := ⟨w.heap.size + 2, 1, none⟩) (by show w.heap.size ≤ w.heap.size + 2; omega) _⟩
          · have HZ := hid (HRO.out HT.out)
            go_wp2_with fail
            refine (LT _ (h.below Br)).mono ?_
            rintro e w5 ⟨g5, m5, c5, rfl, hm5, o5, b5⟩
            have hR5 := block_below b5 hRr
            have B5 := Br.trans (b5.mono Br.size)
            have lz5 := (Array.getElem?_eq_some_iff.1 hR5).1
            obtain ⟨z0, z1, d0, d1⟩ := row2 hR5
            clear y0 y1 f0 f1 x0 x1 x2 u0 u1 u2
            go_wp2
            refine bodyPost_ret (v := .agg #[.int .i64 0, .slice (some ⟨g5, 0, none⟩) m5 c5]) (by simp [results, Try.results45, go_sem, z0, z1]) rfl ⟨_, m5, c5, by rw [HZ.out], by omega, ?_, (B5.setCell (p := ⟨w.heap.size + 2, 0, none⟩) (by show w.heap.size ≤ w.heap.size + 2; omega) _).setCell (p := ⟨w.heap.size + 2, 1, none⟩) (by show w.heap.size ≤ w.heap.size + 2; omega) _⟩
            rw [HZ.out]
            refine owns_base (base := wr.heap.size) (ownsRow_setCell_below (ownsRow_setCell_below o5 ?_ _) ?_ _) Br.size
            · show w.heap.size + 2 < wr.heap.size; exact lz
            · show w.heap.size + 2 < wr.heap.size; exact lz
end Go.Proofs.Ythfanfnbjldddaa
