/- UnpackPage of the program: its deferred function, its five ways. -/
import Derived.Test.YthkbaabfhbjbgaaUnpC
import Derived.Defers
import Derived.Recover
import Derived.Laws.Pointers
namespace Go.Proofs.Ythkbaabfhbjbgaa
open Go.RowKit

theorem catch_panicking (g : Nat) (c : Int) (x0 x1 : Value) (older : List PanicEntry) (w : World) (h0 : w.cell? ⟨g, 0, none⟩ = some x0) (h1 : w.cell? ⟨g, 1, none⟩ = some x1) (f0 : w.frozen? ⟨g, 0, none⟩ = false) (f1 : w.frozen? ⟨g, 1, none⟩ = false) :
    CallsD Try.prog 41 #[.pointer (some ⟨g, 0, none⟩)] (.panicking ({ v := .iface 70 (.int .i64 c), recovered := false } :: older)) w fun e u' w' =>
      e = .returned (.tuple #[]) ∧ u' = .panicking ({ v := .iface 70 (.int .i64 c), recovered := true } :: older) ∧ w' = (w.setCell ⟨g, 0, none⟩ (.int .i64 c)).setCell ⟨g, 1, none⟩ (.slice none 0 0) := by
  refine callsD_of_wpS Try.func41 rfl fun c₀ cs hu => ?_
  apply wpS_seq
  apply wpS_region
  simp [wpOpsS, go_sem, recoverD, hu, Try.ntmps41, Exit.thenS]
  refine wpS_of_wp ?_
  go_wp2_with (first | (go_at_call 42; refine (code_any _ _).mono ?_; rintro e w' ⟨rfl, rfl⟩))
  simp [bodyPostS, results, Try.results41]

theorem catch_idle (p : Addr) (w : World) :
    CallsD Try.prog 41 #[.pointer (some p)] .returning w fun e u' w' => e = .returned (.tuple #[]) ∧ u' = .returning ∧ w' = w := by
  refine callsD_of_wpS Try.func41 rfl fun c₀ cs hu => ?_
  apply wpS_seq
  apply wpS_region
  simp [wpOpsS, go_sem, recoverD, hu, Try.ntmps41, Exit.thenS]
  refine wpS_of_wp ?_
  go_wp2
  cases c₀
  simp_all [bodyPostS, results, Try.results41]

set_option maxHeartbeats 400000 in
theorem unpack_panics (v : Value) (c : Int) (w : World)
    (hp : Calls Try.prog 43 #[v] (w.alloc (.cells #[.int .i64 0, .slice none 0 0] 27)) fun e w' => e = .panicked [{ v := .iface 70 (.int .i64 c), recovered := false }] ∧ Below (w.alloc (.cells #[.int .i64 0, .slice none 0 0] 27)).heap.size (w.alloc (.cells #[.int .i64 0, .slice none 0 0] 27)) w') :
    Calls Try.prog 11 #[v] w fun e w' => e = .returned (.agg #[.int .i64 c, .slice none 0 0]) ∧ Below w.heap.size w w' := by
  have HP := hid hp
  clear hp
  have hmf : ∀ (fn : Fn) (first cap : Array Value) (w : World), (Instr.makeFunc fn first cap).run Try.prog w = .ok (.func fn first cap) w := fun _ _ _ _ => rfl
  go_enter_defers Try.func11, Try.ntmps11
  go_wp2_with fail
  refine HP.out.mono ?_
  rintro e w1 ⟨rfl, b1⟩
  have q0 := box_cell b1 0
  have q1 := box_cell b1 1
  have f0 := b1.frozen (p := ⟨w.heap.size, 0, none⟩) (by simp)
  have f1 := b1.frozen (p := ⟨w.heap.size, 1, none⟩) (by simp)
  simp [go_sem] at q0 q1 f0 f1
  go_wp2
  refine leaves_cons (f := 41) (args := #[.pointer (some ⟨w.heap.size, 0, none⟩)]) (by simp) (by simp [go_sem]) ?_
  refine (catch_panicking w.heap.size c _ _ [] _ q0 q1 f0 f1).mono ?_
  rintro e u' w'' ⟨rfl, rfl, rfl⟩
  have bb := ((below_box b1).setCell (p := ⟨w.heap.size, 0, none⟩) (Nat.le_refl _) (.int .i64 c)).setCell (p := ⟨w.heap.size, 1, none⟩) (Nat.le_refl _) (.slice none 0 0)
  simp [Leaves, settle, results, Try.results11, go_sem, q0, q1]
  exact bb

set_option maxHeartbeats 400000 in
theorem unpack_ok (v : Value) (m : Nat) (rs : List Ch.Row) (w : World)
    (hp : Calls Try.prog 43 #[v] (w.alloc (.cells #[.int .i64 0, .slice none 0 0] 27)) fun e w' => ∃ a' c', e = .returned (.slice a' m c') ∧ w'.ownsRow (w.alloc (.cells #[.int .i64 0, .slice none 0 0] 27)).heap.size 36 3 (.slice a' m c') m (rcells rs) ∧ Below (w.alloc (.cells #[.int .i64 0, .slice none 0 0] 27)).heap.size (w.alloc (.cells #[.int .i64 0, .slice none 0 0] 27)) w') :
    Calls Try.prog 11 #[v] w fun e w' => ∃ a' c', e = .returned (.agg #[.int .i64 0, .slice a' m c']) ∧ w'.ownsRow w.heap.size 36 3 (.slice a' m c') m (rcells rs) ∧ Below w.heap.size w w' := by
  have HP := hid hp
  clear hp
  have hmf : ∀ (fn : Fn) (first cap : Array Value) (w : World), (Instr.makeFunc fn first cap).run Try.prog w = .ok (.func fn first cap) w := fun _ _ _ _ => rfl
  go_enter_defers Try.func11, Try.ntmps11
  go_wp2_with fail
  refine HP.out.mono ?_
  rintro e w1 ⟨a1, c1, rfl, o1, b1⟩
  have q0 := box_cell b1 0
  have q1 := box_cell b1 1
  have f0 := b1.frozen (p := ⟨w.heap.size, 0, none⟩) (by simp)
  have f1 := b1.frozen (p := ⟨w.heap.size, 1, none⟩) (by simp)
  simp [go_sem] at q0 q1 f0 f1
  go_wp2
  refine leaves_cons (f := 41) (args := #[.pointer (some ⟨w.heap.size, 0, none⟩)]) (by simp) (by simp [go_sem]) ?_
  refine (catch_idle ⟨w.heap.size, 0, none⟩ _).mono ?_
  rintro e u' w'' ⟨rfl, rfl, rfl⟩
  have bb := ((below_box b1).setCell (p := ⟨w.heap.size, 0, none⟩) (Nat.le_refl _) (.int .i64 0)).setCell (p := ⟨w.heap.size, 1, none⟩) (Nat.le_refl _) (.slice a1 m c1)
  have oo := owns_base (ownsRow_setCell_below (ownsRow_setCell_below o1 (a := ⟨w.heap.size, 0, none⟩) (by simp) (.int .i64 0)) (a := ⟨w.heap.size, 1, none⟩) (by simp) (.slice a1 m c1)) (show w.heap.size ≤ _ by simp)
  simp [Leaves, settle, results, Try.results11, go_sem, q0, q1]
  exact ⟨a1, c1, ⟨rfl, rfl⟩, oo, bb⟩

namespace Ch
/-- How long bytes of a page are. -/
def lenOk (zs : List Int) : Bool := decide (3 ≤ zs.length) && ((zs.length : Int) == 3 + 4 * zs.getD 0 0)
def sumOk (zs : List Int) : Bool := (zs.getD (zs.length - 2) 0 * 256 + zs.getD (zs.length - 2 + 1) 0) == sumB (zs.take (zs.length - 2))
def rowPart (zs : List Int) : List Int := (zs.drop 1).take (zs.length - 2 - 1)
def many (zs : List Int) : Nat := (zs.length - 3) / 4
def goodB (ys : List Int) (m : Nat) : Bool := (List.range m).all fun i => decide (ys.getD (4 * i + 3) 0 ≤ 1)
theorem goodB_iff (ys : List Int) (m : Nat) : goodB ys m = true ↔ GoodTo ys m := by
  simp [goodB, GoodTo]
/-- The first row whose last byte is above 1. -/
theorem first_bad (ys : List Int) (m : Nat) (h : goodB ys m = false) : ∃ j, j < m ∧ GoodTo ys j ∧ 1 < ys.getD (4 * j + 3) 0 := by
  induction m with
  | zero => simp [goodB] at h
  | succ m ih =>
    cases hm : goodB ys m
    · obtain ⟨j, hj, hg, hb⟩ := ih hm
      exact ⟨j, by omega, hg, hb⟩
    · have hg := (goodB_iff ys m).1 hm
      refine ⟨m, by omega, hg, ?_⟩
      by_cases hb : 1 < ys.getD (4 * m + 3) 0
      · exact hb
      · exfalso
        have : GoodTo ys (m + 1) := by
          intro i hi
          by_cases he : i = m
          · subst he; omega
          · exact hg i (by omega)
        rw [(goodB_iff ys (m + 1)).2 this] at h
        cases h
/-- What reading a page comes to. -/
def unp (zs : List Int) : Int × List Row :=
  if lenOk zs = false then (5, []) else if sumOk zs = false then (6, []) else if goodB (rowPart zs) (many zs) = false then (1, [])
  else if pageFault (rowsIn (rowPart zs) (many zs)) = 0 then (0, rowsIn (rowPart zs) (many zs)) else (1, [])
theorem lenOk_eq {zs : List Int} (h : lenOk zs = true) (hb : zs.getD 0 0 ≤ 255) : zs.length = 3 + 4 * many zs ∧ many zs ≤ 255 ∧ (zs.length : Int) = 3 + 4 * zs.getD 0 0 := by
  simp only [lenOk, Bool.and_eq_true, decide_eq_true_eq, beq_iff_eq] at h
  unfold many
  omega
end Ch

set_option maxHeartbeats 400000 in
theorem implUnpack_any (a : Option Addr) (n cap : Nat) (zs : List Int) (w : World) (h : CellsAt w a n (bts zs)) (hb : IsB zs) (hn : n ≤ 1048576) (hcap : n ≤ cap) :
    Calls Try.prog 11 #[.slice a n cap] w fun e w' => ∃ a' m c', e = .returned (.agg #[.int .i64 (Ch.unp zs).1, .slice a' m c']) ∧ m ≤ 255 ∧ w'.ownsRow w.heap.size 36 3 (.slice a' m c') m (rcells (Ch.unp zs).2) ∧ Below w.heap.size w w' := by
  have hl := h.len.out
  have hbox := h.below ((Below.refl w.heap.size w).alloc (Nat.le_refl _) (.cells #[.int .i64 0, .slice none 0 0] 27))
  obtain ⟨z0, z1⟩ := hb 0
  have done : ∀ c : Int, Ch.unp zs = (c, []) → (Calls Try.prog 11 #[.slice a n cap] w fun e w' => e = .returned (.agg #[.int .i64 c, .slice none 0 0]) ∧ Below w.heap.size w w') →
      Calls Try.prog 11 #[.slice a n cap] w fun e w' => ∃ a' m c', e = .returned (.agg #[.int .i64 (Ch.unp zs).1, .slice a' m c']) ∧ m ≤ 255 ∧ w'.ownsRow w.heap.size 36 3 (.slice a' m c') m (rcells (Ch.unp zs).2) ∧ Below w.heap.size w w' := by
    intro c hc hw
    rw [hc]
    refine hw.mono ?_
    rintro e w' ⟨rfl, b⟩
    exact ⟨_, _, _, rfl, by omega, World.ownsRow_nil _ _ _ _, b⟩
  cases hL : Ch.lenOk zs
  · refine done 5 (by simp [Ch.unp, hL]) (unpack_panics _ 5 w ?_)
    by_cases h0 : n = 0
    · subst h0; exact readPage_none a cap _
    · obtain ⟨b, off, rfl, hc⟩ := hbox.at (show 0 < n by omega)
      refine readPage_text b off n cap (zs.getD 0 0) _ (by omega) hn hc z0 z1 ?_
      simp only [Ch.lenOk, Bool.and_eq_false_iff, decide_eq_false_iff_not, beq_eq_false_iff_ne] at hL
      rw [bne_iff_ne]
      omega
  · obtain ⟨e1, e2, e3⟩ := Ch.lenOk_eq hL z1
    obtain ⟨q, rfl⟩ : ∃ q, n = q + 2 := ⟨n - 2, by omega⟩
    obtain ⟨b, off, rfl, _⟩ := hbox.at (show 0 < q + 2 by omega)
    have hq2 : zs.length - 2 = q := by omega
    have he : (((q : Int) + 2) != 3 + 4 * zs.getD 0 0) = false := by rw [bne_eq_false_iff_eq]; omega
    have hm : q = 1 + 4 * Ch.many zs := by omega
    cases hS : Ch.sumOk zs
    · refine done 6 (by simp [Ch.unp, hL, hS]) (unpack_panics _ 6 w (readPage_sum b off q cap zs _ hbox hb (by omega) hcap he ?_))
      simp only [Ch.sumOk, hq2, beq_eq_false_iff_ne] at hS
      rw [bne_iff_ne]; exact hS
    · have hs : ((zs.getD q 0 * 256 + zs.getD (q + 1) 0) != Ch.sumB (zs.take q)) = false := by
        simp only [Ch.sumOk, hq2, beq_iff_eq] at hS
        rw [bne_eq_false_iff_eq]; exact hS
      have hY : Ch.rowPart zs = (zs.drop 1).take (q - 1) := by unfold Ch.rowPart; rw [hq2]
      cases hG : Ch.goodB (Ch.rowPart zs) (Ch.many zs)
      · obtain ⟨j, hj, hg, hbad⟩ := Ch.first_bad _ _ hG
        rw [hY] at hg hbad
        exact done 1 (by simp [Ch.unp, hL, hS, hG]) (unpack_panics _ 1 w (readPage_bad b off q cap zs _ hbox hb (by omega) hcap he hs _ hm j hg hj hbad))
      · have hg := (Ch.goodB_iff _ _).1 hG
        rw [hY] at hg
        by_cases hF : Ch.pageFault (Ch.rowsIn (Ch.rowPart zs) (Ch.many zs)) = 0
        · have hU : Ch.unp zs = (0, Ch.rowsIn (Ch.rowPart zs) (Ch.many zs)) := by simp [Ch.unp, hL, hS, hG, hF]
          rw [hU]
          refine (unpack_ok _ (Ch.many zs) (Ch.rowsIn (Ch.rowPart zs) (Ch.many zs)) w ?_).mono ?_
          · rw [hY] at hF ⊢
            exact readPage_ok b off q cap zs _ hbox hb (by omega) hcap he hs _ hm hg hF
          · rintro e w' ⟨a', c', rfl, o, bb⟩
            exact ⟨a', _, c', rfl, e2, o, bb⟩
        · refine done 1 (by simp [Ch.unp, hL, hS, hG, hF]) (unpack_panics _ 1 w ?_)
          rw [hY] at hF
          exact readPage_fault b off q cap zs _ hbox hb (by omega) hcap he hs _ hm hg _ rfl (by rw [bne_iff_ne]; exact hF)
end Go.Proofs.Ythkbaabfhbjbgaa
