
/- Walks of the fault of a log: of the program, of the model; copies and comparisons of logs; the law FnExactWalFault. -/
import Derived.Test.YtommekhmdmnjlaaReadI
namespace Go.Proofs.Ytommekhmdmnjlaa
open Go.RowKit

set_option maxHeartbeats 400000 in
theorem isAll_any (a : Option Addr) (n cap : Nat) (zs : List Int) (w : World) (h : CellsAt w a n (bts zs)) (hb : IsB zs) (hn : n ≤ 4000) (hcap : n ≤ cap) :
    Calls Try.prog 44 #[.slice a n cap] w fun e w' => e = .returned (.bool (Ch.used zs == zs.length)) ∧ Below w.heap.size w w' := by
  have HL := h.len
  go_enter Try.func44, Try.ntmps44
  go_wp2_with fail
  refine (implRead_ok a n cap zs _ h hb hn hcap).mono ?_
  rintro e w1 ⟨a', c', rfl, own, b1⟩
  clear own
  generalize (Ch.reads zs).length = p
  have hfd : ∀ W, (Instr.field 33 (.agg #[.int .i64 0, .int .i64 (Ch.used zs), .slice a' p c']) 1).run Try.prog W = .ok (.int .i64 (Ch.used zs)) W := fun _ => by kernel_rfl
  have hE : Hid (((Ch.used zs : Int) == (n : Int)) = (Ch.used zs == zs.length)) := by
    show _ = _
    rw [← HL.out, Bool.eq_iff_iff]
    simp only [beq_iff_eq]
    omega
  go_wp2
  go_ret
  exact ⟨by rw [← hE.out]; rfl, b1⟩

theorem Ch.walFault_many {s l : List Int} (h : 4000 < s.length + l.length) : Ch.walFault s l = 2 := by unfold Ch.walFault; rw [if_pos h]
theorem Ch.walFault_text {s l : List Int} (h : ¬ 4000 < s.length + l.length) (h2 : (Ch.used s == s.length) = false ∨ (Ch.used l == l.length) = false) : Ch.walFault s l = 5 := by
  unfold Ch.walFault
  rw [if_neg h, if_pos]
  rcases h2 with h2 | h2
  · left; simpa using h2
  · right; simpa using h2
theorem Ch.walFault_ok {s l : List Int} (h : ¬ 4000 < s.length + l.length) (h1 : (Ch.used s == s.length) = true) (h2 : (Ch.used l == l.length) = true) : Ch.walFault s l = 0 := by
  unfold Ch.walFault
  rw [if_neg h, if_neg]
  simp at h1 h2
  omega

theorem box2 {w w1 : World} {t : TypeId} {c0 c1 : Value} (b : Below (w.alloc (.cells #[c0, c1] t)).heap.size (w.alloc (.cells #[c0, c1] t)) w1) :
    w1.cell? ⟨w.heap.size, 0, none⟩ = some c0 ∧ w1.cell? ⟨w.heap.size, 1, none⟩ = some c1 := ⟨box_cell b 0, box_cell b 1⟩

set_option maxHeartbeats 1000000 in
theorem implWal_any (a a' : Option Addr) (n m cap cap' : Nat) (ss ls : List Int) (w : World) (h : CellsAt w a n (bts ss)) (h' : CellsAt w a' m (bts ls)) (hb : IsB ss) (hb' : IsB ls) (hn : n ≤ 1048576) (hm : m ≤ 1048576) (hcap : n ≤ cap) (hcap' : m ≤ cap') :
    Calls Try.prog 17 #[.agg #[.slice a n cap, .slice a' m cap']] w fun e w' => e = .returned (.int .i64 (Ch.walFault ss ls)) ∧ Below w.heap.size w w' := by
  have HL := h.len
  have HM := h'.len
  have b0 : Below w.heap.size w (w.alloc (.cells #[.slice a n cap, .slice a' m cap'] 25)) := (Below.refl _ _).alloc (Nat.le_refl _) _
  by_cases hbig : 4000 < n + m
  · have hi : (4000 : Int) < (n : Int) + (m : Int) := by omega
    have HF : Hid (Ch.walFault ss ls = 2) := Ch.walFault_many (by have := HL.out; have := HM.out; omega)
    go_enter Try.func17, Try.ntmps17
    go_wp2_with fail
    go_ret
    exact ⟨by rw [HF.out]; rfl, b0⟩
  · have hi : ¬ (4000 : Int) < (n : Int) + (m : Int) := by omega
    have HN : Hid (¬ 4000 < ss.length + ls.length) := by
      have := HL.out
      have := HM.out
      show ¬ _
      omega
    go_enter Try.func17, Try.ntmps17
    go_wp2_with fail
    refine (isAll_any a n cap ss _ (h.below b0) hb (by omega) hcap).mono ?_
    rintro e w1 ⟨rfl, b1⟩
    obtain ⟨x0, x1⟩ := box2 b1
    have b1' := below_box b1
    cases h1 : (Ch.used ss == ss.length)
    · have HF : Hid (Ch.walFault ss ls = 5) := Ch.walFault_text HN.out (.inl h1)
      clear h1
      go_wp2_with fail
      go_ret
      exact ⟨by rw [HF.out]; rfl, b1'⟩
    · go_wp2_with fail
      refine (isAll_any a' m cap' ls _ (h'.below b1') hb' (by omega) hcap').mono ?_
      rintro e w2 ⟨rfl, b2⟩
      have b2' := b1'.trans (b2.mono b1'.size)
      cases h2 : (Ch.used ls == ls.length)
      · have HF : Hid (Ch.walFault ss ls = 5) := Ch.walFault_text HN.out (.inr h2)
        clear h1 h2
        go_wp2_with fail
        go_ret
        exact ⟨by rw [HF.out]; rfl, b2'⟩
      · have HF : Hid (Ch.walFault ss ls = 0) := Ch.walFault_ok HN.out h1 h2
        clear h1 h2
        go_wp2_with fail
        go_ret
        exact ⟨by rw [HF.out]; rfl, b2'⟩

set_option maxHeartbeats 1000000 in
/-- The fault of a log behind a pointer: the model's. -/
theorem l2Fault_any (P : Nat) (a a' : Option Addr) (n m cap cap' : Nat) (ss ls : List Int) (w : World) (p0 : w.cell? ⟨P, 0, none⟩ = some (.slice a n cap)) (p1 : w.cell? ⟨P, 1, none⟩ = some (.slice a' m cap')) (h : CellsAt w a n (bts ss)) (h' : CellsAt w a' m (bts ls)) (hb : IsB ss) (hb' : IsB ls) (hn : n ≤ 1048576) (hm : m ≤ 1048576) (hcap : n ≤ cap) (hcap' : m ≤ cap') :
    Calls Try.prog 38 #[.pointer (some ⟨P, 0, none⟩)] w fun e w' => e = .returned (.int .i64 (Ch.walFault ss ls)) ∧ Below w.heap.size w w' := by
  have HL := h.len
  have HM := h'.len
  by_cases hbig : 4000 < n + m
  · have hi : (4000 : Int) < (n : Int) + (m : Int) := by omega
    have HF : Hid (Ch.walFault ss ls = 2) := Ch.walFault_many (by have := HL.out; have := HM.out; omega)
    go_enter Try.func38, Try.ntmps38
    go_wp2
    go_quiet (fail)
    go_wp2
    go_ret
    exact ⟨by rw [HF.out]; rfl, below_drewN (Below.refl _ _) _⟩
  · have hi : ¬ (4000 : Int) < (n : Int) + (m : Int) := by omega
    have HN : Hid (¬ 4000 < ss.length + ls.length) := by
      have := HL.out
      have := HM.out
      show ¬ _
      omega
    go_enter Try.func38, Try.ntmps38
    go_wp2
    go_quiet (fail)
    go_wp2_with fail
    refine (l2Read_any a n cap ss _ (h.below (below_drewN (Below.refl _ _) _)) hb hn hcap).mono ?_
    rintro e w1 ⟨g1, c1, rfl, o1, b1⟩
    replace b1 : Below w.heap.size w w1 := ⟨b1.os, b1.tape, b1.output, b1.size, b1.block⟩
    have x0 := keep_cell b1 p0
    have x1 := keep_cell b1 p1
    clear o1
    generalize (Ch.reads ss).length = q1
    have hE : Hid (((Ch.used ss : Int) != (n : Int)) = !(Ch.used ss == ss.length)) := by
      show _ = _
      rw [← HL.out, Bool.eq_iff_iff]
      simp only [bne_iff_ne, ne_eq, Bool.not_eq_true', beq_eq_false_iff_ne]
      omega
    cases h1 : (Ch.used ss == ss.length)
    · have HF : Hid (Ch.walFault ss ls = 5) := Ch.walFault_text HN.out (.inl h1)
      have hne := hE.out
      rw [h1] at hne
      simp only [Bool.not_false] at hne
      clear h1 hE
      go_wp2_with fail
      go_ret
      exact ⟨by rw [HF.out]; rfl, b1⟩
    · have hne := hE.out
      rw [h1] at hne
      simp only [Bool.not_true] at hne
      clear hE
      go_wp2_with fail
      refine (l2Read_any a' m cap' ls _ (h'.below b1) hb' hm hcap').mono ?_
      rintro e w2 ⟨g2, c2, rfl, o2, b2⟩
      have b2' := b1.trans (b2.mono b1.size)
      have y1 := keep_cell b2 x1
      clear o2 b2 hne
      generalize (Ch.reads ls).length = q2
      have hE : Hid (((Ch.used ls : Int) != (m : Int)) = !(Ch.used ls == ls.length)) := by
        show _ = _
        rw [← HM.out, Bool.eq_iff_iff]
        simp only [bne_iff_ne, ne_eq, Bool.not_eq_true', beq_eq_false_iff_ne]
        omega
      cases h2 : (Ch.used ls == ls.length)
      · have HF : Hid (Ch.walFault ss ls = 5) := Ch.walFault_text HN.out (.inr h2)
        have hne := hE.out
        rw [h2] at hne
        simp only [Bool.not_false] at hne
        clear h1 h2 hE
        go_wp2_with fail
        go_ret
        exact ⟨by rw [HF.out]; rfl, b2'⟩
      · have HF : Hid (Ch.walFault ss ls = 0) := Ch.walFault_ok HN.out h1 h2
        have hne := hE.out
        rw [h2] at hne
        simp only [Bool.not_true] at hne
        clear h1 h2 hE
        go_wp2_with fail
        go_ret
        exact ⟨by rw [HF.out]; rfl, b2'⟩

end Go.Proofs.Ytommekhmdmnjlaa
