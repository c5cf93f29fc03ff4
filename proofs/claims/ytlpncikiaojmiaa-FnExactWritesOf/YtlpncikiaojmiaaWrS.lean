/- WritesOf of the model. -/
import Derived.Test.YtlpncikiaojmiaaWrM
import Derived.Test.YtlpncikiaojmiaaRvC
import Derived.Test.YtlpncikiaojmiaaRvD
import Derived.Test.YtlpncikiaojmiaaAcF
import Derived.Test.YtlpncikiaojmiaaStW
namespace Go.Proofs.Ytlpncikiaojmiaa
open Go.RowKit

set_option linter.unusedSimpArgs false in
set_option maxRecDepth 20000 in
set_option maxHeartbeats 4000000 in
theorem specWrites_ok (a : Option Addr) (n cap : Nat) (txn : Int) (ts : List Ch.Ac) (w : World) (h : AcAt w a n ts) (hn : n ≤ 1048576) (hF : Ch.acsF ts = 0) (ht : Ch.inB txn 1 999 = true) :
    Calls Try.prog 28 #[.slice a n cap, .int .i64 txn] w fun e w' => ∃ a' m c', e = .returned (.agg #[.int .i64 0, .slice a' m c']) ∧ w'.ownsRow w.heap.size 2 1 (.slice a' m c') m (icells (Ch.wrL ts txn)) ∧ Below w.heap.size w w' := by
  have HL := h.len
  obtain ⟨i0, hi0, hz0, hz1, hz2⟩ := info_parts Try.info2
  have hb0 : Below w.heap.size w (w.alloc (.cells #[.int .i64 0, .slice none 0 0] 53)) := (Below.refl _ _).alloc (Nat.le_refl _) _
  have HW : Hid (Ch.wrL ts txn = Ch.wrTo ts txn 100) := rfl
  rw [HW.out]
  have HA : Hid (AcAt w a n ts) := h
  go_enter Try.func28, Try.ntmps28
  go_wp2_with fail
  refine (specActs_any a n cap ts _ (h.below hb0) hn).mono ?_
  rintro e w1 ⟨rfl, b1⟩
  rw [hF]
  have hR : w1.heap[w.heap.size]? = some (.cells #[.int .i64 0, .slice none 0 0] 53 (0, 0)) := (b1.block w.heap.size (by simp)).trans (heap_alloc_new w _)
  have b1 := below_box b1
  have lz := (Array.getElem?_eq_some_iff.1 hR).1
  clear h hb0
  go_wp2_with (go_at_call 58; refine (l2Txn_any _ _).mono ?_; rintro e w' ⟨rfl, hww⟩; rw [ht, hww]; clear hww w')
  obtain ⟨OO, hOO⟩ : ∃ OO, Hid (w1.heap.size = OO) := ⟨_, rfl⟩
  go_loopw [7] (fun i wr => ∃ (k m : Nat) (a' : Option Addr) (c' : Nat), k ≤ 100 ∧ m ≤ k ∧ i = .int .i64 k ∧ wr.heap[w.heap.size]? = some (.cells #[.int .i64 0, .slice none 0 0] 53 (0, 0)) ∧ wr.heap[w1.heap.size]? = some (.cells #[.int .i64 0, .slice a' m c'] 53 (0, 0)) ∧ wr.ownsRow (w1.heap.size + 1) 2 1 (.slice a' m c') m (icells (Ch.wrTo ts txn k)) ∧ w1.heap.size + 1 ≤ wr.heap.size ∧ Below w.heap.size w wr) (fun i _ => 100 - (intOf i).toNat)
  case atStart => exact ⟨0, 0, none, 0, Nat.zero_le _, Nat.le_refl _, rfl, (heap_old' lz).trans hR, heap_alloc_new w1 _, World.ownsRow_nil _ _ _ _, by simp, b1.alloc b1.size _⟩
  case round =>
    clear hR
    generalize wr = wo at *
    obtain ⟨k, m, a', c', hk, hmk, rfl, hR, hX, own, hsz, hB⟩ := hrel
    obtain ⟨x0, x1, f0, f1⟩ := row2 hR
    obtain ⟨y0, y1, g0, g1⟩ := row2 hX
    have lr := (Array.getElem?_eq_some_iff.1 hR).1
    have lx := (Array.getElem?_eq_some_iff.1 hX).1
    by_cases hlt : k < 100
    · have HNx := hid (Ch.wrTo_next ts txn k)
      have HNy : Hid (Ch.wrote ts txn k = true → Ch.wrTo ts txn (k + 1) = Ch.wrTo ts txn k ++ [(k : Int)]) := fun h => by rw [HNx.out, if_pos h]
      have HNn : Hid (Ch.wrote ts txn k = false → Ch.wrTo ts txn (k + 1) = Ch.wrTo ts txn k) := fun h => by rw [HNx.out, if_neg (by simp [h])]; simp
      clear HNx
      generalize Ch.wrTo ts txn k = zs at *
      have h99 : decide ((k : Int) ≤ 99) = true := by simp; omega
      go_wp2
      go_loopw [8] (fun i wx => ∃ j : Nat, j ≤ n ∧ i = .int .i64 j ∧ Hid ((ts.take j).any (fun t => t.wr txn && t.a == (k : Int)) = false) ∧ Below wo.heap.size wo wx) (fun i _ => n - (intOf i).toNat)
      case atStart => exact ⟨0, Nat.zero_le _, rfl, rfl, Below.refl _ _⟩
      case round =>
        obtain ⟨j, hj, rfl, HJ, hBx⟩ := hrel
        have hBw := hB.trans (hBx.mono hB.size)
        have hRx := block_belowV hBx hR
        have hXx := block_belowV hBx hX
        have ownx := owns_below own hBx
        have hszx : w1.heap.size + 1 ≤ wr.heap.size := Nat.le_trans hsz hBx.size
        obtain ⟨s0, s1, t0, t1⟩ := row2 hXx
        have ls := lt_of_cell s0
        by_cases hjl : j < n
        · have hjt : j < ts.length := by have := HL.out; omega
          have HJn := hid (fun h' => Ch.wrote_none hjt HJ.out h')
          have HJy := hid (fun h' => HNy.out (Ch.wrote_yes (txn := txn) (key := (k : Int)) hjt h'))
          obtain ⟨b, off, ai, ni, ci, rfl, hd0, hd1, hd2, hd3, hd4, hd5, _, _⟩ := (HA.out.below hBw).act hjl
          have hbl := lt_of_cell hd0
          generalize Ch.acAt ts j = l at *
          obtain ⟨tx, kd, p, q, v, an⟩ := l
          simp only at hd0 hd1 hd2 hd3 hd4
          have HC : Hid (((Ch.Ac.mk tx kd p q v an).wr txn && (Ch.Ac.mk tx kd p q v an).a == (k : Int)) = (tx == txn && Ch.isW kd && p == (k : Int))) := rfl
          rw [HC.out] at HJn HJy
          clear HC hd5
          by_cases he : (tx == txn) = true
          · have IW := fun W => l14Writes_any kd p q v W
            cases hw : Ch.isW kd with
            | true =>
              rw [hw] at IW
              by_cases hp : (p == (k : Int)) = true
              · have HY := hid (HJy.out (by rw [he, hw, hp]; rfl))
                clear HJn HJy HNn HNy
                go_wp2_with fail
                refine (IW _).mono ?_
                rintro e w2 ⟨rfl, b2⟩
                have hB2 := hBw.trans (b2.mono hBw.size)
                have hR2 := block_belowV b2 hRx
                have hX2 := block_belowV b2 hXx
                have own2 := owns_below ownx b2
                have z2 := b2.size
                replace hd2 := keep_cell b2 hd2
                have t1 := keep_cell b2 s1
                have lt1 := lt_of_cell t1
                have hbl2 := lt_of_cell hd2
                have hsum : m + 1 ≤ 4194304 := by omega
                have kQ : Below w2.heap.size w2 (w2.alloc (.cells #[.int .i64 (k : Int)] 2)) := (Below.refl _ _).alloc (Nat.le_refl _) _
                have own3 := owns_below own2 kQ
                have hX3 := block_belowV kQ hX2
                have hR3 := block_belowV kQ hR2
                have hC3 := new_int w2 (k : Int) 2
                have hb3 : w1.heap.size + 1 ≤ (w2.alloc (.cells #[.int .i64 (k : Int)] 2)).heap.size := by simp; omega
                have b3 := hB2.trans (kQ.mono hB2.size)
                clear hd0 hd1 hd3 hd4
                go_wp2_with (at_builtin; go_must (refine wpList_appX Try.underlying24 Try.underlying24 hi0 hz0 hz1 hz2 rfl (by omega) (by omega) (.tmp 56) (.tmp 58) ?_ ?_ (w1.heap.size + 1) (.slice a' m c') m (icells zs) _ 1 1 (icells [(k : Int)]) ?_ ?_ own3 hC3 (icells_one' [(k : Int)]) hsum hb3 ?_; exact rfl; exact rfl; exact rfl; exact rfl; intro a5 c5 w5 own5 gr5 at5; have hX5 := block_grownV gr5 hX3 (own_apartV own3 (by omega)); have hR5 := block_grownV gr5 hR3 (own_apartV own3 (by omega)); obtain ⟨v0, v1, e0, e1⟩ := row2 hX5; have lv := lt_of_cell v0; go_frame))
                go_roundw
                case rel =>
                  rw [← icells_append, ← HY.out] at own5
                  have b5 := b3.grown gr5 b3.size (fun g hg => by have := (owns_lt own3 g hg).1; omega)
                  refine ⟨k + 1, m + 1, a5, c5, by omega, by omega, by go_num, ?_, ?_, ?_, ?_, b5.setCell (p := ⟨w1.heap.size, 1, none⟩) (by show w.heap.size ≤ w1.heap.size; omega) _⟩
                  · exact (Below.heap_setCell _ _ _ _ (by show w.heap.size ≠ w1.heap.size; omega)).trans hR5
                  · have := Joins.block_setCell (i := 1) hX5 (.slice a5 (m + 1) c5)
                    simpa using this
                  · exact ownsRow_setCell_below own5 (by show w1.heap.size < w1.heap.size + 1; omega) _
                  · have := gr5.size; simp at this ⊢; omega
                case measure => simp [intOf]; omega
              · have hp' : (p == (k : Int)) = false := by simpa using hp
                have HN := hid (HJn.out (by rw [he, hw, hp']; rfl))
                clear HJn HJy hp
                go_wp2_with fail
                refine (IW _).mono ?_
                rintro e w2 ⟨rfl, b2⟩
                replace hd2 := keep_cell b2 hd2
                have hbl2 := lt_of_cell hd2
                go_wp2
                go_roundw
                case rel => exact ⟨j + 1, by omega, by go_num, HN, hBx.trans (b2.mono hBx.size)⟩
                case measure => simp [intOf]; omega
            | false =>
              rw [hw] at IW
              have HN := hid (HJn.out (by rw [he, hw]; rfl))
              clear HJn HJy
              go_wp2_with fail
              refine (IW _).mono ?_
              rintro e w2 ⟨rfl, b2⟩
              go_wp2
              go_roundw
              case rel => exact ⟨j + 1, by omega, by go_num, HN, hBx.trans (b2.mono hBx.size)⟩
              case measure => simp [intOf]; omega
          · have he' : (tx == txn) = false := by simpa using he
            have HN := hid (HJn.out (by rw [he']; rfl))
            clear HJn HJy he
            go_wp2
            go_roundw
            case rel => exact ⟨j + 1, by omega, by go_num, HN, hBx⟩
            case measure => simp [intOf]; omega
        · obtain rfl : j = n := by omega
          have HY := hid (HNn.out (by have h1 := HJ.out; have h2 := HL.out; rw [h2, List.take_length] at h1; exact h1))
          go_wp2
          go_roundw
          case rel => exact ⟨k + 1, m, a', c', by omega, by omega, by go_num, hRx, hXx, by rw [HY.out]; exact ownx, hszx, hBw⟩
          case measure => simp [intOf]; omega
    · obtain rfl : k = 100 := by omega
      go_wp2
      refine bodyPost_ret (v := .agg #[.int .i64 0, .slice a' m c']) (by simp [results, Try.results28, go_sem, x0, x1, y0, y1]) rfl ⟨a', m, c', rfl, ?_, ?_⟩
      · refine owns_base (base := w1.heap.size + 1) (ownsRow_setCell_below (ownsRow_setCell_below own ?_ _) ?_ _) (by omega)
        · show w.heap.size < w1.heap.size + 1; omega
        · show w.heap.size < w1.heap.size + 1; omega
      · exact (hB.setCell (p := ⟨w.heap.size, 0, none⟩) (Nat.le_refl _) _).setCell (p := ⟨w.heap.size, 1, none⟩) (Nat.le_refl _) _

set_option maxHeartbeats 1000000 in
theorem specWrites_any (a : Option Addr) (n cap : Nat) (txn : Int) (ts : List Ch.Ac) (w : World) (h : AcAt w a n ts) (hn : n ≤ 1048576) :
    Calls Try.prog 28 #[.slice a n cap, .int .i64 txn] w fun e w' => ∃ a' m c', e = .returned (.agg #[.int .i64 (Ch.wrR ts txn).1, .slice a' m c']) ∧ w'.ownsRow w.heap.size 2 1 (.slice a' m c') m (icells (Ch.wrR ts txn).2) ∧ Below w.heap.size w w' := by
  by_cases h0 : Ch.acsF ts = 0
  · cases ht : Ch.inB txn 1 999 with
    | true =>
      rw [Ch.wrR_ok h0 ht]
      exact specWrites_ok a n cap txn ts w h hn h0 ht
    | false =>
      rw [Ch.wrR_txn h0 ht]
      have hb0 : Below w.heap.size w (w.alloc (.cells #[.int .i64 0, .slice none 0 0] 53)) := (Below.refl _ _).alloc (Nat.le_refl _) _
      go_enter Try.func28, Try.ntmps28
      go_wp2_with fail
      refine (specActs_any a n cap ts _ (h.below hb0) hn).mono ?_
      rintro e w1 ⟨rfl, b1⟩
      rw [h0]
      obtain ⟨cA, fA⟩ := bcell b1
      have x0 := cA w.heap.size 0 (by simp)
      have x1 := cA w.heap.size 1 (by simp)
      have fx0 := fA w.heap.size 0 (by simp)
      have fx1 := fA w.heap.size 1 (by simp)
      clear cA fA
      simp [go_sem] at x0 x1 fx0 fx1
      have hz := lt_of_cell x0
      go_wp2_with (go_at_call 58; refine (l2Txn_any _ _).mono ?_; rintro e w' ⟨rfl, hww⟩; rw [ht, hww]; clear hww w')
      refine bodyPost_ret (v := .agg #[.int .i64 3, .slice none 0 0]) (by simp [results, Try.results28, go_sem, x0, x1]) rfl ⟨none, 0, 0, rfl, World.ownsRow_nil _ _ _ _, ?_⟩
      exact ((below_box b1).setCell (p := ⟨w.heap.size, 0, none⟩) (Nat.le_refl _) _).setCell (p := ⟨w.heap.size, 1, none⟩) (Nat.le_refl _) _
  · obtain ⟨c, HC⟩ : ∃ c, Hid (Ch.acsF ts = c) := ⟨_, rfl⟩
    have hc : (c != 0) = true := by rw [← HC.out]; simpa using h0
    rw [Ch.wrR_bad HC.out hc]
    have hb0 : Below w.heap.size w (w.alloc (.cells #[.int .i64 0, .slice none 0 0] 53)) := (Below.refl _ _).alloc (Nat.le_refl _) _
    clear h0
    go_enter Try.func28, Try.ntmps28
    go_wp2_with fail
    refine (specActs_any a n cap ts _ (h.below hb0) hn).mono ?_
    rintro e w1 ⟨rfl, b1⟩
    rw [HC.out]
    obtain ⟨cA, fA⟩ := bcell b1
    have x0 := cA w.heap.size 0 (by simp)
    have x1 := cA w.heap.size 1 (by simp)
    have fx0 := fA w.heap.size 0 (by simp)
    have fx1 := fA w.heap.size 1 (by simp)
    clear cA fA
    simp [go_sem] at x0 x1 fx0 fx1
    have hz := lt_of_cell x0
    go_wp2
    refine bodyPost_ret (v := .agg #[.int .i64 c, .slice none 0 0]) (by simp [results, Try.results28, go_sem, x0, x1]) rfl ⟨none, 0, 0, rfl, World.ownsRow_nil _ _ _ _, ?_⟩
    exact ((below_box b1).setCell (p := ⟨w.heap.size, 0, none⟩) (Nat.le_refl _) _).setCell (p := ⟨w.heap.size, 1, none⟩) (Nat.le_refl _) _
theorem Ch.wrR_len (ts : List Ch.Ac) (txn : Int) : (Ch.wrR ts txn).2.length ≤ 100 := by
  unfold Ch.wrR
  split
  · simp
  · split
    · exact Ch.wrTo_len ts txn 100
    · simp
end Go.Proofs.Ytlpncikiaojmiaa
