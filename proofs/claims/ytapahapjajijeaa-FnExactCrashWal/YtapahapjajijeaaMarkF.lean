
/- Marks of bytes from any number on; marks of logs; results of logs held against each other. -/
import Derived.Test.YtapahapjajijeaaForceS
import Derived.Test.YtapahapjajijeaaWalL
namespace Go.Proofs.Ytapahapjajijeaa
open Go.RowKit

namespace Ch
/-- Marks from q on, modulo 256. -/
def marksF (q n : Nat) : List Int := (List.range n).map fun (i : Nat) => ((q : Int) + (i : Int)) % 256
theorem marksF_len (q n : Nat) : (marksF q n).length = n := by simp [marksF]
theorem marksF_snoc (q n : Nat) : marksF q (n + 1) = marksF q n ++ [((q : Int) + (n : Int)) % 256] := by simp [marksF, List.range_succ]
theorem marksF_at (q n k : Nat) (h : k < n) : (marksF q n).getD k 0 = ((q : Int) + (k : Int)) % 256 := by simp [marksF, List.getD, h]
end Ch

def markedF (q : Nat) (zs : List Int) (k : Nat) : List Int := Ch.marksF q k ++ zs.drop k
theorem markedF_set (q : Nat) (zs : List Int) (k : Nat) (h : k < zs.length) : (bts (markedF q zs k)).set k (.int .u8 (((q : Int) + (k : Int)) % 256)) = bts (markedF q zs (k + 1)) := by
  rw [bts_set]
  unfold markedF
  rw [Ch.set_mid _ _ _ _ (Ch.marksF_len q k) h, Ch.marksF_snoc]

set_option maxHeartbeats 400000 in
theorem markF_some (q B g n cp : Nat) (zs : List Int) (w : World) (hown : w.ownsRow B 5 1 (.slice (some ⟨g, 0, none⟩) n cp) n (bts zs)) (hn : n ≤ 2097152) (hq : q ≤ 4194304) :
    Calls Try.prog 110 #[.slice (some ⟨g, 0, none⟩) n cp, .int .i64 q] w fun e w' => e = .returned (.int .i64 (q + n)) ∧ w'.ownsRow B 5 1 (.slice (some ⟨g, 0, none⟩) n cp) n (bts (Ch.marksF q n)) ∧ w.grownBy w' (some g) := by
  have HL : Hid (n = zs.length) := by
    have := hown.1
    simp [bts] at this
    exact this.symm
  go_enter Try.func110, Try.ntmps110
  go_wp2
  go_loopw [1, 5] (fun v i wr => ∃ k : Nat, k ≤ n ∧ i = .int .i64 k ∧ v = .int .i64 ((q : Int) + (k : Int)) ∧ wr.ownsRow B 5 1 (.slice (some ⟨g, 0, none⟩) n cp) n (bts (markedF q zs k)) ∧ w.grownBy wr (some g)) (fun _ i _ => n - (intOf i).toNat)
  case atStart => exact ⟨0, Nat.zero_le _, rfl, by simp, by simpa [markedF, Ch.marksF] using hown, ⟨rfl, rfl, rfl, Nat.le_refl _, fun _ _ _ => rfl⟩⟩
  case round =>
    obtain ⟨k, hk, rfl, rfl, own, gr⟩ := hrel
    by_cases hlt : k < n
    · have hf := own.frozenAt k
      obtain ⟨u0, hc⟩ := owns_some own (j := k) (by omega)
      have hS := own.stored k (.int .u8 (((q : Int) + (k : Int)) % 256))
      rw [markedF_set q zs k (by have := HL.out; omega)] at hS
      go_wp2
      go_roundw
      case rel => exact ⟨k + 1, by omega, by go_num, by go_num, hS.1, gr_trans gr hS.2⟩
      case measure => simp [intOf]; omega
    · obtain rfl : k = n := by omega
      go_wp2
      go_ret
      refine ⟨rfl, ?_, gr⟩
      have := HL.out
      simpa [markedF, this] using own

theorem markF_nil (q : Nat) (w : World) (_hq : q ≤ 4194304) : Calls Try.prog 110 #[.slice none 0 0, .int .i64 q] w fun e w' => e = .returned (.int .i64 q) ∧ w' = w := by
  go_enter Try.func110, Try.ntmps110
  go_wp2
  go_loop [1, 5] (fun v i => i = .int .i64 0 ∧ v = .int .i64 q) (fun _ _ => 0)
  case atStart => exact ⟨rfl, rfl⟩
  case round =>
    obtain ⟨rfl, rfl⟩ := hrel
    go_wp2
    go_ret
    exact ⟨rfl, rfl⟩

theorem markF_any (q B : Nat) (a : Option Addr) (n cp : Nat) (zs : List Int) (w : World) (hown : w.ownsRow B 5 1 (.slice a n cp) n (bts zs)) (hn : n ≤ 2097152) (hq : q ≤ 4194304) :
    Calls Try.prog 110 #[.slice a n cp, .int .i64 q] w fun e w' => e = .returned (.int .i64 ((q + n : Nat) : Int)) ∧ w'.ownsRow B 5 1 (.slice a n cp) n (bts (Ch.marksF q n)) ∧ w.grownBy w' (Value.slice a n cp).ownBlock := by
  rcases hown.2 with ⟨hv, h0⟩ | ⟨g, cp', cur, hv, _⟩
  · simp only [Value.slice.injEq] at hv
    obtain ⟨rfl, rfl, rfl⟩ := hv
    refine (markF_nil q w hq).mono ?_
    rintro e w' ⟨rfl, rfl⟩
    exact ⟨rfl, World.ownsRow_nil _ _ _ _, ⟨rfl, rfl, rfl, Nat.le_refl _, fun _ _ _ => rfl⟩⟩
  · simp only [Value.slice.injEq, true_and] at hv
    obtain ⟨rfl, rfl⟩ := hv
    refine (markF_some q B g n cp zs w hown hn hq).mono ?_
    rintro e w' ⟨rfl, o, gr⟩
    exact ⟨by rw [Int.natCast_add], o, gr⟩

theorem heldF_any (q : Nat) (a : Option Addr) (n cp : Nat) (w : World) (h : CellsAt w a n (bts (Ch.marksF q n))) (hn : n ≤ 2097152) (hq : q ≤ 4194304) :
    Calls Try.prog 145 #[.slice a n cp, .int .i64 q] w fun e w' => e = .returned (.int .i64 ((q + n : Nat) : Int)) ∧ w' = w := by
  go_enter Try.func145, Try.ntmps145
  go_wp2
  go_loop [1, 5] (fun v i => ∃ k : Nat, k ≤ n ∧ i = .int .i64 k ∧ v = .int .i64 ((q : Int) + (k : Int))) (fun _ i => n - (intOf i).toNat)
  case atStart => exact ⟨0, Nat.zero_le _, rfl, by simp⟩
  case round =>
    obtain ⟨k, hk, rfl, rfl⟩ := hrel
    by_cases hlt : k < n
    · obtain ⟨b, off, rfl, hc⟩ := h.at hlt
      rw [Ch.marksF_at q n k hlt] at hc
      go_wp2
      go_round
      case rel => exact ⟨k + 1, by omega, by go_num, by go_num⟩
      case measure => simp [intOf]; omega
    · obtain rfl : k = n := by omega
      go_wp2
      go_ret
      exact ⟨rfl, rfl⟩

set_option maxHeartbeats 400000 in
theorem markWal_any (B1 B2 : Nat) (a a' : Option Addr) (n m cap cap' : Nat) (ss ls : List Int) (w : World) (o1 : w.ownsRow B1 5 1 (.slice a n cap) n (bts ss)) (o2 : w.ownsRow B2 5 1 (.slice a' m cap') m (bts ls)) (hd : ∀ g, (Value.slice a n cap).ownBlock = some g → (Value.slice a' m cap').ownBlock ≠ some g) (hn : n ≤ 1048576) (hm : m ≤ 1048576) :
    Calls Try.prog 42 #[.agg #[.slice a n cap, .slice a' m cap'], .int .i64 1] w fun e w' => e = .returned (.int .i64 ((1 + n + m : Nat) : Int)) ∧ w'.ownsRow B1 5 1 (.slice a n cap) n (bts (Ch.marksF 1 n)) ∧ w'.ownsRow B2 5 1 (.slice a' m cap') m (bts (Ch.marksF (1 + n) m)) ∧
      ∃ wm, w.grownBy wm (Value.slice a n cap).ownBlock ∧ wm.grownBy w' (Value.slice a' m cap').ownBlock := by
  have e1 := markF_any 1 B1 a n cap ss (w.alloc (.cells #[.slice a n cap, .slice a' m cap'] 37)) (o1.alloc _) (by omega) (by omega)
  have l1 := owns_lt o1
  have l2 := owns_lt o2
  go_enter Try.func42, Try.ntmps42
  go_wp2_with fail
  refine e1.mono ?_
  clear e1
  rintro e w1 ⟨rfl, p1, gr1⟩
  have p2 := owns_grown (o2.alloc (.cells #[.slice a n cap, .slice a' m cap'] 37)) gr1 (fun g hg hk => hd g hk hg)
  have x1 := grown_cell gr1 (b := w.heap.size) (o := 1) (v := .slice a' m cap') (by simp) (fun hk => by have := l1 _ hk; omega)
  have e2 := markF_any (1 + n) B2 a' m cap' ls w1 p2 (by omega) (by omega)
  generalize hq : 1 + n = q at *
  go_wp2_with fail
  refine e2.mono ?_
  clear e2
  rintro e w2 ⟨rfl, p3, gr2⟩
  have p4 := owns_grown p1 gr2 (fun g hg hk => hd g hg hk)
  go_wp2
  go_ret
  rw [hq]
  exact ⟨ret_int (Int.natCast_add q m).symm, p4, p3, w1, gr_alloc gr1, gr2⟩

set_option maxHeartbeats 400000 in
theorem markWalResult_any (c u : Int) (B1 B2 : Nat) (a a' : Option Addr) (n m cap cap' : Nat) (ss ls : List Int) (w : World) (o1 : w.ownsRow B1 5 1 (.slice a n cap) n (bts ss)) (o2 : w.ownsRow B2 5 1 (.slice a' m cap') m (bts ls)) (hd : ∀ g, (Value.slice a n cap).ownBlock = some g → (Value.slice a' m cap').ownBlock ≠ some g) (hn : n ≤ 1048576) (hm : m ≤ 1048576) :
    Calls Try.prog 43 #[.agg #[.int .i64 c, .int .i64 u, .slice a n cap, .slice a' m cap'], .int .i64 1] w fun e w' => e = .returned (.int .i64 ((1 + n + m : Nat) : Int)) ∧ w'.ownsRow B1 5 1 (.slice a n cap) n (bts (Ch.marksF 1 n)) ∧ w'.ownsRow B2 5 1 (.slice a' m cap') m (bts (Ch.marksF (1 + n) m)) ∧
      ∃ wm, w.grownBy wm (Value.slice a n cap).ownBlock ∧ wm.grownBy w' (Value.slice a' m cap').ownBlock := by
  go_enter Try.func43, Try.ntmps43
  go_wp2_with fail
  refine (markWal_any B1 B2 a a' n m cap cap' ss ls _ (o1.alloc _) (o2.alloc _) hd hn hm).mono ?_
  rintro e w1 ⟨rfl, p1, p2, wm, g1, g2⟩
  generalize hq : 1 + n + m = q at *
  go_wp2
  go_ret
  exact ⟨by rw [hq]; rfl, p1, p2, wm, gr_alloc g1, g2⟩

set_option maxHeartbeats 400000 in
theorem heldWalResult_any (c u : Int) (a a' : Option Addr) (n m cap cap' : Nat) (w : World) (h : CellsAt w a n (bts (Ch.marksF 1 n))) (h' : CellsAt w a' m (bts (Ch.marksF (1 + n) m))) (hn : n ≤ 1048576) (hm : m ≤ 1048576) :
    Calls Try.prog 44 #[.agg #[.int .i64 c, .int .i64 u, .slice a n cap, .slice a' m cap'], .int .i64 1] w fun e w' => e = .returned (.int .i64 ((1 + n + m : Nat) : Int)) ∧ Below w.heap.size w w' := by
  have hw : ∀ W : World, Below w.heap.size w W → Calls Try.prog 111 #[.agg #[.slice a n cap, .slice a' m cap'], .int .i64 1] W fun e w' => e = .returned (.int .i64 ((1 + n + m : Nat) : Int)) ∧ Below W.heap.size W w' := by
    intro W hW
    have bW : Below w.heap.size w (W.alloc (.cells #[.slice a n cap, .slice a' m cap'] 37)) := hW.alloc hW.size _
    have e1 := heldF_any 1 a n cap (W.alloc (.cells #[.slice a n cap, .slice a' m cap'] 37)) (h.below bW) (by omega) (by omega)
    have e2 := heldF_any (1 + n) a' m cap' (W.alloc (.cells #[.slice a n cap, .slice a' m cap'] 37)) (h'.below bW) (by omega) (by omega)
    generalize hq : 1 + n = q at *
    generalize hr : q + m = r at *
    have i1 : ¬ (q : Int) < 0 := by omega
    have i2 : ¬ (r : Int) < 0 := by omega
    go_enter Try.func111, Try.ntmps111
    go_wp2_with fail
    refine e1.mono ?_
    rintro e w1 ⟨rfl, hw1⟩
    subst w1
    go_wp2_with fail
    refine e2.mono ?_
    rintro e w1 ⟨rfl, hw1⟩
    subst w1
    go_wp2
    go_ret
    exact ⟨rfl, (Below.refl _ _).alloc (Nat.le_refl _) _⟩
  have hw' := hw (w.alloc (.cells #[.int .i64 c, .int .i64 u, .slice a n cap, .slice a' m cap'] 41)) ((Below.refl _ _).alloc (Nat.le_refl _) _)
  generalize hr : 1 + n + m = r at *
  have i2 : ¬ (r : Int) < 0 := by omega
  go_enter Try.func44, Try.ntmps44
  go_wp2_with fail
  refine hw'.mono ?_
  rintro e w1 ⟨rfl, b1⟩
  go_wp2
  go_ret
  exact ⟨rfl, below_box b1⟩

set_option maxHeartbeats 400000 in
theorem eqWalResult_same (c u : Int) (a a' b b' : Option Addr) (n m c1 c2 c3 c4 : Nat) (ss ls : List Int) (w : World) (h : CellsAt w a n (bts ss)) (h' : CellsAt w a' m (bts ls)) (k : CellsAt w b n (bts ss)) (k' : CellsAt w b' m (bts ls)) (hn : n ≤ 1048576) (hm : m ≤ 1048576) :
    Calls Try.prog 40 #[.agg #[.int .i64 c, .int .i64 u, .slice a n c1, .slice a' m c2], .agg #[.int .i64 c, .int .i64 u, .slice b n c3, .slice b' m c4]] w fun e w' => e = .returned (.bool true) ∧ Below w.heap.size w w' := by
  have hcc : (c != c) = false := by simp
  have huu : (u != u) = false := by simp
  have b0 : Below w.heap.size w ((w.alloc (.cells #[.int .i64 c, .int .i64 u, .slice a n c1, .slice a' m c2] 41)).alloc (.cells #[.int .i64 c, .int .i64 u, .slice b n c3, .slice b' m c4] 41)) := ((Below.refl _ _).alloc (Nat.le_refl _) _).alloc (by simp) _
  go_enter Try.func40, Try.ntmps40
  go_wp2_with fail
  refine (eqWal_same a a' b b' n m c1 c2 c3 c4 ss ls _ (h.below b0) (h'.below b0) (k.below b0) (k'.below b0) (by omega) (by omega)).mono ?_
  rintro e w1 ⟨rfl, b1⟩
  go_wp2
  go_ret
  exact ⟨rfl, b0.trans (b1.mono (by simp; omega))⟩
end Go.Proofs.Ytapahapjajijeaa
