
/- Walks of the laws' functions on locks: copies and comparisons of whole locks. -/
import Derived.Test.YtbeolkklnlljcaaLkS
namespace Go.Proofs.Ytbeolkklnlljcaa
open Go.RowKit

theorem Try.info104 : (Try.prog.info? 104).map (fun i => (i.zero, i.size, i.bytes)) = some (some (.agg #[.int .i64 0, .slice none 0 0, .slice none 0 0]), 3, 56) := by kernel_rfl

set_option linter.unusedSimpArgs false in
set_option maxHeartbeats 1000000 in
theorem toLock_any (r : Int) (ah : Option Addr) (nh ch : Nat) (aq : Option Addr) (nq cq : Nat) (hs qs : List Ch.Hold) (w : World) (h3 : CellsAt w ah (nh * 2) (hcells hs)) (h4 : CellsAt w aq (nq * 2) (hcells qs)) (hn : nh ≤ 1048576) (hq : nq ≤ 1048576) :
    Calls Try.prog 103 #[.agg #[.int .i64 r, .slice ah nh ch, .slice aq nq cq]] w fun e w' => ∃ g1 g2, e = .returned (.agg #[.int .i64 r, .slice (some ⟨g1, 0, none⟩) nh nh, .slice (some ⟨g2, 0, none⟩) nq nq]) ∧
      w'.ownsRow w.heap.size 120 2 (.slice (some ⟨g1, 0, none⟩) nh nh) nh (hcells hs) ∧ w'.ownsRow w.heap.size 120 2 (.slice (some ⟨g2, 0, none⟩) nq nq) nq (hcells qs) ∧ g1 < g2 ∧ Below w.heap.size w w' := by
  have b0 : Below w.heap.size w (((w.alloc (.cells #[.int .i64 r, .slice ah nh ch, .slice aq nq cq] 133)).alloc (.cells #[.int .i64 0, .slice none 0 0, .slice none 0 0] 104)).alloc (.cells #[.int .i64 r, .slice none 0 0, .slice none 0 0] 104)) := by
    refine Below.alloc (Below.alloc (Below.alloc (Below.refl _ w) (Nat.le_refl _) _) ?_ _) ?_ _
    · simp
    · simp; omega
  go_enter Try.func103, Try.ntmps103
  go_wp2_with fail
  refine (toHoldS_at (w.heap.size + 3) ah nh ch hs _ (by simp) (h3.below b0) hn).mono ?_
  rintro e w1 ⟨rfl, o1, b1⟩
  have b1' := b0.trans (b1.mono b0.size)
  obtain ⟨cA, fA⟩ := bcell b1
  have p2 := cA w.heap.size 2 (by simp; omega)
  have y0 := cA (w.heap.size + 1) 0 (by simp)
  have y1 := cA (w.heap.size + 1) 1 (by simp)
  have y2 := cA (w.heap.size + 1) 2 (by simp)
  have z0 := cA (w.heap.size + 2) 0 (by simp)
  have z1 := cA (w.heap.size + 2) 1 (by simp)
  have z2 := cA (w.heap.size + 2) 2 (by simp)
  have fy0 := fA (w.heap.size + 1) 0 (by simp)
  have fy1 := fA (w.heap.size + 1) 1 (by simp)
  have fy2 := fA (w.heap.size + 1) 2 (by simp)
  have fz1 := fA (w.heap.size + 2) 1 (by simp)
  have fz2 := fA (w.heap.size + 2) 2 (by simp)
  clear cA fA
  simp [go_sem] at p2 y0 y1 y2 z0 z1 z2 fy0 fy1 fy2 fz1 fz2
  have hz : w.heap.size + 3 < w1.heap.size := (owns_bounds o1).2
  have bS := b1'.setCell (p := ⟨w.heap.size + 2, 1, none⟩) (by simp) (.slice (some ⟨w.heap.size + 3, 0, none⟩) nh nh)
  have oS := ownsRow_setCell_below (a := ⟨w.heap.size + 2, 1, none⟩) o1 (by simp) (.slice (some ⟨w.heap.size + 3, 0, none⟩) nh nh)
  go_wp2_with fail
  refine (toHoldS_at w1.heap.size aq nq cq qs _ (by simp) (h4.below bS) hq).mono ?_
  rintro e w2 ⟨rfl, o2, b2⟩
  have b2' := bS.trans (b2.mono bS.size)
  have oS := owns_below oS b2
  obtain ⟨cA, fA⟩ := bcell b2
  have y0' := cA (w.heap.size + 1) 0 (by simp; omega)
  have y1' := cA (w.heap.size + 1) 1 (by simp; omega)
  have y2' := cA (w.heap.size + 1) 2 (by simp; omega)
  have z0' := cA (w.heap.size + 2) 0 (by simp; omega)
  have z1' := cA (w.heap.size + 2) 1 (by simp; omega)
  have z2' := cA (w.heap.size + 2) 2 (by simp; omega)
  have fy0' := fA (w.heap.size + 1) 0 (by simp; omega)
  have fy1' := fA (w.heap.size + 1) 1 (by simp; omega)
  have fy2' := fA (w.heap.size + 1) 2 (by simp; omega)
  have fz2' := fA (w.heap.size + 2) 2 (by simp; omega)
  clear cA fA
  have hz2 : w1.heap.size < w2.heap.size := (owns_bounds o2).2
  simp [go_sem, y0, y1, y2, z0, z1, z2, fy0, fy1, fy2, fz1, fz2] at y0' y1' y2' z0' z1' z2' fy0' fy1' fy2' fz2'
  clear y0 y1 y2 z0 z1 z2 fy0 fy1 fy2 fz1 fz2 b2 b1
  go_wp2
  refine bodyPost_ret (v := .agg #[.int .i64 r, .slice (some ⟨w.heap.size + 3, 0, none⟩) nh nh, .slice (some ⟨w1.heap.size, 0, none⟩) nq nq]) (by simp [results, Try.results103, go_sem, y0', y1', y2', z0', z1', z2']) rfl ⟨_, _, rfl, ?_, ?_, hz, ?_⟩
  · refine owns_base (base := w.heap.size + 3) (ownsRow_setCell_below (ownsRow_setCell_below (ownsRow_setCell_below (ownsRow_setCell_below oS ?_ _) ?_ _) ?_ _) ?_ _) (by omega)
    all_goals simp
  · refine owns_base (base := w1.heap.size) (ownsRow_setCell_below (ownsRow_setCell_below (ownsRow_setCell_below (ownsRow_setCell_below o2 ?_ _) ?_ _) ?_ _) ?_ _) (by omega)
    all_goals (simp; omega)
  · refine Below.setCell (Below.setCell (Below.setCell (Below.setCell b2' ?_ _) ?_ _) ?_ _) ?_ _
    all_goals show w.heap.size ≤ _
    all_goals first | exact Nat.le_add_right _ _ | (simp; omega)

theorem made_locks {w : World} {B n : Nat} {v : Value} (h : w.ownsRow B 104 3 v n (madeCells (Value.agg #[.int .i64 0, .slice none 0 0, .slice none 0 0]).cells (n * 3)).toList) : OwnLk 104 w B v n (List.replicate n Ch.Lock.zero) := by
  have e : (madeCells (Value.agg #[.int .i64 0, .slice none 0 0, .slice none 0 0]).cells (n * 3)).toList = lcells (List.replicate n Ch.Lock.zero) (List.replicate n (.slice none 0 0, .slice none 0 0)) := by
    rw [made_cells _ n 3 rfl (by decide) (fun _ => [.int .i64 0, .slice none 0 0, .slice none 0 0]) (fun _ => rfl)]
    clear h
    induction n with
    | zero => rfl
    | succ n ih => rw [List.range_succ, List.flatMap_append, ih, List.replicate_succ', List.replicate_succ', lcells_append (by simp)]; rfl
  rw [e] at h
  have hx : ∀ (i : Nat) (x : Value × Value), (List.replicate n ((.slice none 0 0, .slice none 0 0) : Value × Value))[i]? = some x → x = (.slice none 0 0, .slice none 0 0) := by
    intro i x hi
    rw [List.getElem?_replicate] at hi
    split at hi
    · cases hi; rfl
    · cases hi
  have hl : ∀ i, Ch.lkAt (List.replicate n Ch.Lock.zero) i = Ch.Lock.zero := by
    intro i
    unfold Ch.lkAt
    by_cases hi : i < n
    · simp [List.getD, hi]
    · simp [List.getD, hi]
  refine ⟨_, by simp, by simp, h, fun i p hp => ?_, fun i p hp => ?_, ?_⟩
  · rw [hx i p hp, hl]; exact World.ownsRow_nil _ _ _ _
  · rw [hx i p hp, hl]; exact World.ownsRow_nil _ _ _ _
  · have : (List.replicate n ((.slice none 0 0, .slice none 0 0) : Value × Value)).flatMap blks = [] := by
      rw [List.flatMap_eq_nil_iff]
      intro p hp
      rw [List.mem_replicate] at hp
      rw [hp.2]; rfl
    rw [this]
    cases v.ownBlock <;> simp

set_option maxHeartbeats 1000000 in
theorem toLockS_any (a : Option Addr) (n cap : Nat) (ls : List Ch.Lock) (w : World) (h : LkAt w a n ls) (hs : Ch.lkSize ls ≤ 1048576) :
    Calls Try.prog 40 #[.slice a n cap] w fun e w' => e = .returned (.slice (some ⟨w.heap.size, 0, none⟩) n n) ∧ OwnLk 104 w' w.heap.size (.slice (some ⟨w.heap.size, 0, none⟩) n n) n ls ∧ Below w.heap.size w w' := by
  have HL := h.len
  have hn : n ≤ 1048576 := by unfold Ch.lkSize at hs; have := HL.out; omega
  obtain ⟨i0, hi, hz0, hz1, hz2⟩ := info_parts Try.info104
  go_enter Try.func40, Try.ntmps40
  go_wp2_with (at_make; refine wpList_make_full _ rfl _ _ 24 rfl w.heap.size 104 i0 (.agg #[.int .i64 0, .slice none 0 0, .slice none 0 0]) 3 Try.underlying24 hi hz0 hz1 .i64 .i64 _ _ n rfl rfl rfl rfl (by rw [hz2]; omega) (by unfold maxLen; omega) (Nat.le_refl _) ?_; intro w0 hown0 hgrow0)
  have hB0 : Below w.heap.size w w0 := (Below.refl _ _).grown hgrow0 (Nat.le_refl _) (by simp)
  go_loopw [4] (fun i wr => ∃ k : Nat, k ≤ n ∧ i = .int .i64 k ∧ OwnLk 104 wr w.heap.size (.slice (some ⟨w.heap.size, 0, none⟩) n n) n (ls.take k ++ List.replicate (n - k) Ch.Lock.zero) ∧ Below w.heap.size w wr) (fun i _ => n - (intOf i).toNat)
  case atStart => exact ⟨0, Nat.zero_le _, rfl, by simpa using made_locks hown0, hB0⟩
  case round =>
    obtain ⟨k, hk, rfl, hown, hB⟩ := hrel
    by_cases hlt : k < n
    · have HF := hid (fill_set ls Ch.Lock.zero Ch.Lock.zero n k HL.out hlt)
      have HS := hid (Ch.lk_one hs k)
      obtain ⟨b, off, ah, nh, ch, aq, nq, cq, rfl, hc0, hc1, hc2, h3, h4, hnh, hnq, _, _⟩ := (h.below hB).lock hlt
      have HR := h3.hlen
      have HR2 := h4.hlen
      have hnh' : nh ≤ 1048576 := by have := HS.out; have := HR.out; omega
      have hnq' : nq ≤ 1048576 := by have := HS.out; have := HR2.out; omega
      have hbl := lt_of_cell hc0
      rw [show ls.getD k Ch.Lock.zero = Ch.lkAt ls k from rfl] at HF
      generalize Ch.lkAt ls k = l at *
      obtain ⟨r, lhs, lqs⟩ := l
      simp only at hc0 HR HR2 h3 h4
      go_wp2_with fail
      refine (toLock_any r ah nh ch aq nq cq lhs lqs _ h3 h4 hnh' hnq').mono ?_
      rintro e w1 ⟨g1, g2, rfl, o1, o2, hg, b1⟩
      have hB1 := hB.trans (b1.mono hB.size)
      have ⟨vs, hK⟩ := hown.below b1
      have hO := hK.row
      have hf0 := hO.frozenAt (k * 3)
      have hf1 := hO.frozenAt (k * 3 + 1)
      have hf2 := hO.frozenAt (k * 3 + 2)
      obtain ⟨u0, hd0⟩ := owns_some hO (j := k * 3) (by omega)
      obtain ⟨u1, hd1⟩ := owns_some hO (j := k * 3 + 1) (by omega)
      obtain ⟨u2, hd2⟩ := owns_some hO (j := k * 3 + 2) (by omega)
      clear hO hK
      go_wp2
      go_roundw
      case rel =>
        refine ⟨k + 1, by omega, by go_num, ?_, ?_⟩
        · rw [← HF.out]
          have e1 := HR.out
          have e2 := HR2.out
          subst e1 e2
          exact OwnLk.put (l := ⟨r, lhs, lqs⟩) hown b1 o1 o2 (fun g hg1 hg2 => by simp [Value.ownBlock] at hg1 hg2; omega) hlt hB.size
        · exact ((hB1.setCell (Nat.le_refl _) _).setCell (Nat.le_refl _) _).setCell (Nat.le_refl _) _
      case measure => simp [intOf]; omega
    · obtain rfl : k = n := by omega
      go_wp2
      go_ret
      refine ⟨rfl, ?_, hB⟩
      have := HL.out
      rw [List.take_of_length_le (by omega)] at hown
      simpa using hown

theorem toLockS_at (H : Nat) (a : Option Addr) (n cap : Nat) (ls : List Ch.Lock) (w : World) (hH : w.heap.size = H) (h : LkAt w a n ls) (hs : Ch.lkSize ls ≤ 1048576) :
    Calls Try.prog 40 #[.slice a n cap] w fun e w' => e = .returned (.slice (some ⟨H, 0, none⟩) n n) ∧ OwnLk 104 w' H (.slice (some ⟨H, 0, none⟩) n n) n ls ∧ Below w.heap.size w w' := by
  subst hH
  exact toLockS_any a n cap ls w h hs

set_option maxHeartbeats 400000 in
theorem eqLock_same (r : Int) (ah ah' : Option Addr) (nh ch ch' : Nat) (aq aq' : Option Addr) (nq cq cq' : Nat) (hs qs : List Ch.Hold) (w : World) (h3 : CellsAt w ah (nh * 2) (hcells hs)) (h4 : CellsAt w aq (nq * 2) (hcells qs)) (h3' : CellsAt w ah' (nh * 2) (hcells hs)) (h4' : CellsAt w aq' (nq * 2) (hcells qs)) (hn : nh ≤ 1048576) (hq : nq ≤ 1048576) :
    Calls Try.prog 104 #[.agg #[.int .i64 r, .slice ah nh ch, .slice aq nq cq], .agg #[.int .i64 r, .slice ah' nh ch', .slice aq' nq cq']] w fun e w' => e = .returned (.bool true) ∧ Below w.heap.size w w' := by
  have hrr : (r != r) = false := by simp
  have b0 : Below w.heap.size w ((w.alloc (.cells #[.int .i64 r, .slice ah nh ch, .slice aq nq cq] 104)).alloc (.cells #[.int .i64 r, .slice ah' nh ch', .slice aq' nq cq'] 104)) := ((Below.refl _ _).alloc (Nat.le_refl _) _).alloc (by simp) _
  go_enter Try.func104, Try.ntmps104
  go_wp2_with fail
  refine (eqHoldS_same ah ah' nh ch ch' hs _ (h3.below b0) (h3'.below b0) hn).mono ?_
  rintro e w1 ⟨rfl, b1⟩
  have b1' := b0.trans (b1.mono b0.size)
  obtain ⟨cA, fA⟩ := bcell b1
  have p2 := cA w.heap.size 2 (by simp; omega)
  have q2 := cA (w.heap.size + 1) 2 (by simp)
  clear cA fA
  simp [go_sem] at p2 q2
  go_wp2_with fail
  refine (eqHoldS_same aq aq' nq cq cq' qs _ (h4.below b1') (h4'.below b1') hq).mono ?_
  rintro e w2 ⟨rfl, b2⟩
  go_wp2
  go_ret
  exact ⟨rfl, b1'.trans (b2.mono b1'.size)⟩

set_option maxHeartbeats 800000 in
theorem eqLockS_same (a a' : Option Addr) (n cap cap' : Nat) (ls : List Ch.Lock) (w : World) (h : LkAt w a n ls) (h' : LkAt w a' n ls) (hs : Ch.lkSize ls ≤ 1048576) :
    Calls Try.prog 42 #[.slice a n cap, .slice a' n cap'] w fun e w' => e = .returned (.bool true) ∧ Below w.heap.size w w' := by
  have HL := h.len
  have hn : n ≤ 1048576 := by unfold Ch.lkSize at hs; have := HL.out; omega
  have hnn : ((n : Int) != n) = false := by simp
  go_enter Try.func42, Try.ntmps42
  go_wp2
  go_loopw [5] (fun i wr => ∃ k : Nat, k ≤ n ∧ i = .int .i64 k ∧ Below w.heap.size w wr) (fun i _ => n - (intOf i).toNat)
  case atStart => exact ⟨0, Nat.zero_le _, rfl, Below.refl _ _⟩
  case round =>
    obtain ⟨k, hk, rfl, hB⟩ := hrel
    by_cases hlt : k < n
    · have HS := hid (Ch.lk_one hs k)
      obtain ⟨b, off, ah, nh, ch, aq, nq, cq, rfl, hc0, hc1, hc2, h3, h4, hnh, hnq, _, _⟩ := (h.below hB).lock hlt
      obtain ⟨b', off', ah', nh', ch', aq', nq', cq', rfl, hc0', hc1', hc2', h3', h4', hnh', hnq', _, _⟩ := (h'.below hB).lock hlt
      have HR := h3.hlen
      have HR2 := h4.hlen
      have HR' := h3'.hlen
      have HR2' := h4'.hlen
      obtain rfl : nh' = nh := HR'.out.trans HR.out.symm
      obtain rfl : nq' = nq := HR2'.out.trans HR2.out.symm
      have hnh : nh' ≤ 1048576 := by have := HS.out; have := HR.out; omega
      have hnq : nq' ≤ 1048576 := by have := HS.out; have := HR2.out; omega
      clear HS HR HR2 HR' HR2'
      generalize Ch.lkAt ls k = l at *
      obtain ⟨r, lhs, lqs⟩ := l
      simp only at hc0 hc0' h3 h4 h3' h4'
      have hbl := lt_of_cell hc0
      have hbl' := lt_of_cell hc0'
      go_wp2
      go_region_with (go_at_call 104; refine (eqLock_same r ah ah' _ ch ch' aq aq' _ cq cq' lhs lqs _ (by assumption) (by assumption) (by assumption) (by assumption) hnh hnq).mono ?_; rintro e w1 ⟨rfl, b1⟩)
      all_goals
        have b1' : Below wr.heap.size wr _ := ⟨b1.os, b1.tape, b1.output, b1.size, b1.block⟩
        clear b1
        go_wp2
        go_roundw
        case rel => exact ⟨k + 1, by omega, by go_num, hB.trans (b1'.mono hB.size)⟩
        case measure => simp [intOf]; omega
    · obtain rfl : k = n := by omega
      go_wp2
      go_ret
      exact ⟨rfl, hB⟩
end Go.Proofs.Ytbeolkklnlljcaa
