
/- SameRows of the model and of the program. -/
import Derived.Test.YtofhkncdjjlllaaFillI
import Derived.BigQuiet
import Derived.Laws.StructEq
namespace Go.Proofs.Ytofhkncdjjlllaa
open Go.RowKit

theorem bel_drewN {B : Nat} {w w' : World} (h : Below B w w') (q : Nat) : Below B w (w'.drewN q) := ⟨h.os, h.tape, h.output, h.size, h.block⟩
/-- Two rows compared. -/
theorem equalRow (k v : Int) (g : Bool) (k' v' : Int) (g' : Bool) (w : World) :
    (Op.equalIn 10000 42 (.agg #[.int .i64 k, .int .i64 v, .bool g]) (.agg #[.int .i64 k', .int .i64 v', .bool g'])).run Try.prog w = .ok (k == k' && (v == v' && g == g')) w := by
  have hS : Try.prog.underlying 42 = some (.struct (Try.prog.fieldsOf 42)) := by kernel_rfl
  have hp : Try.prog.stoodInHeld 42 = false := by kernel_rfl
  have u2 := Try.underlying2
  have a2 := Try.isAgg2
  have z2 := Try.sizeOf2
  have u4 := Try.underlying4
  have a4 := Try.isAgg4
  have z4 := Try.sizeOf4
  rw [show (10000 : Nat) = 9999 + 1 from rfl, run_equalIn_agg w 9999 42 _ _ hS hp]
  simp only [Program.fieldsOf, Try.underlying42]
  go_simp
  cases g <;> cases g' <;> by_cases h1 : k = k' <;> by_cases h2 : v = v' <;> simp [h1, h2]
theorem neqRow (k v : Int) (g : Bool) (k' v' : Int) (g' : Bool) (w : World) :
    (binOp .neq 42 (.agg #[.int .i64 k, .int .i64 v, .bool g]) (.agg #[.int .i64 k', .int .i64 v', .bool g'])).run Try.prog w = .ok (.bool (!(k == k' && (v == v' && g == g')))) w := by
  rw [run_neq_struct, equalRow]
  rfl

set_option maxHeartbeats 800000 in
theorem equal_any (a a' : Option Addr) (n cap n' cap' : Nat) (rs qs : List Ch.Row) (w : World) (h : CellsAt w a (n * 3) (rcells rs)) (h' : CellsAt w a' (n' * 3) (rcells qs)) (hn : n ≤ 1048576) (hn' : n' ≤ 1048576) :
    Calls Try.prog 86 #[.slice a n cap, .slice a' n' cap'] w fun e w' => e = .returned (.bool (Ch.sameL rs qs)) ∧ Below w.heap.size w w' := by
  have HL := h.rlen
  have HL' := h'.rlen
  by_cases hnn : n = n'
  · subst hnn
    have hne : ((n : Int) != n) = false := by simp
    go_enter Try.func86, Try.ntmps86
    go_wp2
    go_loopw [13] (fun i wr => ∃ k : Nat, k ≤ n ∧ i = .int .i64 k ∧ Hid (Ch.sameL rs qs = Ch.sameL (rs.drop k) (qs.drop k)) ∧ Below w.heap.size w wr) (fun i _ => n - (intOf i).toNat)
    case atStart => exact ⟨0, Nat.zero_le _, rfl, rfl, Below.refl _ _⟩
    case round =>
      obtain ⟨k, hk, rfl, HS, hB⟩ := hrel
      by_cases hlt : k < n
      · have HA := hid (Ch.sameL_at rs qs k (by have := HL.out; omega) (by have := HL'.out; omega))
        obtain ⟨b, off, rfl, hc0, hc1, hc2⟩ := (h.below hB).row hlt
        obtain ⟨b', off', rfl, hd0, hd1, hd2⟩ := (h'.below hB).row hlt
        generalize rs.getD k Ch.Row.zero = r at *
        generalize qs.getD k Ch.Row.zero = q at *
        obtain ⟨rk, rv, rg⟩ := r
        obtain ⟨qk, qv, qg⟩ := q
        simp only at hc0 hc1 hc2 hd0 hd1 hd2
        have hneq := fun W => neqRow rk rv rg qk qv qg W
        have HE : Hid (Ch.Row.same ⟨rk, rv, rg⟩ ⟨qk, qv, qg⟩ = (rk == qk && (rv == qv && rg == qg))) := rfl
        generalize (rk == qk && (rv == qv && rg == qg)) = same at *
        cases same
        · simp only [Bool.not_false] at hneq
          go_wp2
          go_quiet (fail)
          go_wp2
          go_ret
          exact ⟨by rw [HS.out, HA.out, HE.out]; rfl, bel_drewN hB _⟩
        · simp only [Bool.not_true] at hneq
          go_wp2
          go_quiet (fail)
          go_wp2
          go_roundw
          case rel => exact ⟨k + 1, by omega, by go_num, (by show _ = _; rw [HS.out, HA.out, HE.out]; rfl), bel_drewN hB _⟩
          case measure => simp [intOf]; omega
      · obtain rfl : k = n := by omega
        go_wp2
        go_ret
        refine ⟨?_, hB⟩
        rw [HS.out, List.drop_of_length_le (by have := HL.out; omega), List.drop_of_length_le (by have := HL'.out; omega)]
        rfl
  · have hne : ((n : Int) != (n' : Int)) = true := by simp; omega
    have hne2 : ¬ (n : Int) = (n' : Int) := by omega
    go_enter Try.func86, Try.ntmps86
    go_wp2
    go_ret
    exact ⟨by rw [Ch.sameL_len _ _ (by have := HL.out; have := HL'.out; omega)]; rfl, Below.refl _ _⟩

set_option maxHeartbeats 800000 in
theorem l4Same_any (a a' : Option Addr) (n cap n' cap' : Nat) (rs qs : List Ch.Row) (w : World) (h : CellsAt w a (n * 3) (rcells rs)) (h' : CellsAt w a' (n' * 3) (rcells qs)) (hn : n ≤ 1048576) (hn' : n' ≤ 1048576) :
    Calls Try.prog 93 #[.slice a n cap, .slice a' n' cap'] w fun e w' => e = .returned (.bool (Ch.sameL rs qs)) ∧ Below w.heap.size w w' := by
  have HL := h.rlen
  have HL' := h'.rlen
  by_cases hnn : n = n'
  · subst hnn
    have hne : ((n : Int) != n) = false := by simp
    go_enter Try.func93, Try.ntmps93
    go_wp2
    go_loopw [5] (fun i wr => ∃ k : Nat, k ≤ n ∧ i = .int .i64 k ∧ Hid (Ch.sameL rs qs = Ch.sameL (rs.drop k) (qs.drop k)) ∧ Below w.heap.size w wr) (fun i _ => n - (intOf i).toNat)
    case atStart => exact ⟨0, Nat.zero_le _, rfl, rfl, Below.refl _ _⟩
    case round =>
      obtain ⟨k, hk, rfl, HS, hB⟩ := hrel
      by_cases hlt : k < n
      · have HA := hid (Ch.sameL_at rs qs k (by have := HL.out; omega) (by have := HL'.out; omega))
        obtain ⟨b, off, rfl, hc0, hc1, hc2⟩ := (h.below hB).row hlt
        obtain ⟨b', off', rfl, hd0, hd1, hd2⟩ := (h'.below hB).row hlt
        generalize rs.getD k Ch.Row.zero = r at *
        generalize qs.getD k Ch.Row.zero = q at *
        obtain ⟨rk, rv, rg⟩ := r
        obtain ⟨qk, qv, qg⟩ := q
        simp only at hc0 hc1 hc2 hd0 hd1 hd2
        have hneq := fun W => neqRow rk rv rg qk qv qg W
        have HE : Hid (Ch.Row.same ⟨rk, rv, rg⟩ ⟨qk, qv, qg⟩ = (rk == qk && (rv == qv && rg == qg))) := rfl
        generalize (rk == qk && (rv == qv && rg == qg)) = same at *
        cases same
        · simp only [Bool.not_false] at hneq
          go_wp2
          go_quiet (fail)
          go_wp2
          go_ret
          exact ⟨by rw [HS.out, HA.out, HE.out]; rfl, bel_drewN hB _⟩
        · simp only [Bool.not_true] at hneq
          go_wp2
          go_quiet (fail)
          go_wp2
          go_roundw
          case rel => exact ⟨k + 1, by omega, by go_num, (by show _ = _; rw [HS.out, HA.out, HE.out]; rfl), bel_drewN hB _⟩
          case measure => simp [intOf]; omega
      · obtain rfl : k = n := by omega
        go_wp2
        go_ret
        refine ⟨?_, hB⟩
        rw [HS.out, List.drop_of_length_le (by have := HL.out; omega), List.drop_of_length_le (by have := HL'.out; omega)]
        rfl
  · have hne : ((n : Int) != (n' : Int)) = true := by simp; omega
    have hne2 : ¬ (n : Int) = (n' : Int) := by omega
    go_enter Try.func93, Try.ntmps93
    go_wp2
    go_ret
    exact ⟨by rw [Ch.sameL_len _ _ (by have := HL.out; have := HL'.out; omega)]; rfl, Below.refl _ _⟩

theorem rowsR_mem (ls : List (List Ch.Row)) : ((Ch.rowsR ls).1 != 0) = (Ch.leavesFault ls != 0) := by
  unfold Ch.rowsR
  split
  · rename_i h; rw [h]
  · rfl

set_option maxHeartbeats 800000 in
theorem implSame_any (a a1 : Option Addr) (n cap n1 cap1 : Nat) (ls ms : List (List Ch.Row)) (w : World) (h : LvAt w a n ls) (h1 : LvAt w a1 n1 ms) (hs : Ch.lvSize ls ≤ 1048576) (hs1 : Ch.lvSize ms ≤ 1048576) :
    Calls Try.prog 34 #[.slice a n cap, .slice a1 n1 cap1] w fun e w' => e = .returned (.bool (Ch.sameR ls ms)) ∧ Below w.heap.size w w' := by
  have RA := fun W hW => implRowsOf_any a n cap ls W hW hs
  have RB := fun W hW => implRowsOf_any a1 n1 cap1 ms W hW hs1
  have hca := rowsR_mem ls
  have hcb := rowsR_mem ms
  have HA : Hid (Ch.leavesFault ls = 0 → (Ch.rowsR ls).2 = ls.flatten) := fun h0 => by rw [Ch.rowsR_ok h0]
  have HB : Hid (Ch.leavesFault ms = 0 → (Ch.rowsR ms).2 = ms.flatten) := fun h0 => by rw [Ch.rowsR_ok h0]
  generalize (Ch.rowsR ls).1 = ca at *
  generalize (Ch.rowsR ms).1 = cb at *
  generalize (Ch.rowsR ls).2 = fa at *
  generalize (Ch.rowsR ms).2 = fb at *
  cases hc : (Ch.leavesFault ls != 0)
  case' false => cases hc1 : (Ch.leavesFault ms != 0)
  all_goals
    rw [hc] at hca
    go_enter Try.func34, Try.ntmps34
    go_wp2_with fail
    refine (RA _ h).mono ?_
    rintro e w1 ⟨a2, m2, c2, rfl, hm2, o2, b1⟩
    go_wp2_with fail
    refine (RB _ (h1.below b1)).mono ?_
    rintro e w2 ⟨a3, m3, c3, rfl, hm3, o3, b2⟩
    have b2' := b1.trans (b2.mono b1.size)
    have C2 := owns_cells (owns_below o2 b2)
    have C3 := owns_cells o3
  · rw [hc1] at hcb
    have h0 : Ch.leavesFault ls = 0 := by simpa using hc
    have h01 : Ch.leavesFault ms = 0 := by simpa using hc1
    rw [HA.out h0] at C2
    rw [HB.out h01] at C3
    clear h0 h01
    go_wp2_with fail
    have b3 : ∀ o o' : Obj, Below w2.heap.size w2 ((w2.alloc o).alloc o') := fun o o' => ((Below.refl _ w2).alloc (Nat.le_refl _) _).alloc (by simp) _
    refine (equal_any a2 a3 m2 c2 m3 c3 _ _ _ (C2.below (b3 _ _)) (C3.below (b3 _ _)) hm2 hm3).mono ?_
    rintro e w4 ⟨rfl, b4⟩
    go_wp2
    go_ret
    exact ⟨by rw [Ch.sameR_ok (by simpa using hc) (by simpa using hc1)]; rfl, b2'.trans (((b3 _ _).trans (b4.mono (b3 _ _).size)).mono b2'.size)⟩
  · rw [hc1] at hcb
    go_wp2
    go_ret
    exact ⟨by rw [Ch.sameR_no2 hc1]; rfl, (b2'.alloc b2'.size _).alloc (by have := b2'.size; simp; omega) _⟩
  · go_wp2
    go_ret
    exact ⟨by rw [Ch.sameR_no hc]; rfl, (b2'.alloc b2'.size _).alloc (by have := b2'.size; simp; omega) _⟩

set_option maxHeartbeats 800000 in
theorem specSame_any (a a1 : Option Addr) (n cap n1 cap1 : Nat) (ls ms : List (List Ch.Row)) (w : World) (h : LvAt w a n ls) (h1 : LvAt w a1 n1 ms) (hs : Ch.lvSize ls ≤ 1048576) (hs1 : Ch.lvSize ms ≤ 1048576) :
    Calls Try.prog 45 #[.slice a n cap, .slice a1 n1 cap1] w fun e w' => e = .returned (.bool (Ch.sameR ls ms)) ∧ Below w.heap.size w w' := by
  have HL := h.len
  have HL1 := h1.len
  have FA := fun W hW => specLv_any a n cap ls W hW hs
  have FB := fun W hW => specLv_any a1 n1 cap1 ms W hW hs1
  cases hc : (Ch.leavesFault ls != 0)
  case' false => cases hc1 : (Ch.leavesFault ms != 0)
  · have h0 : Ch.leavesFault ls = 0 := by simpa using hc
    have h01 : Ch.leavesFault ms = 0 := by simpa using hc1
    have hg := Ch.good_at HL h0
    have hg1 := Ch.good_at HL1 h01
    have hfl := Ch.flat_small hs ls.length
    have hfl1 := Ch.flat_small hs1 ms.length
    rw [List.take_length] at hfl hfl1
    rw [Ch.sameR_ok h0 h01]
    obtain ⟨m, hm⟩ : ∃ m, Hid (ls.flatten.length = m) := ⟨_, rfl⟩
    obtain ⟨m1, hm1⟩ : ∃ m, Hid (ms.flatten.length = m) := ⟨_, rfl⟩
    rw [hm.out] at hfl
    rw [hm1.out] at hfl1
    rw [h0] at FA
    rw [h01] at FB
    go_enter Try.func45, Try.ntmps45
    go_wp2_with fail
    refine (FA _ h).mono ?_
    rintro e w1 ⟨rfl, b1⟩
    go_wp2_with fail
    refine (FB _ (h1.below b1)).mono ?_
    rintro e w2 ⟨rfl, b2⟩
    have b2' := b1.trans (b2.mono b1.size)
    go_wp2_with fail
    refine (specRows_m a n cap ls _ (h.below b2') hs hg m hm).mono ?_
    rintro e w3 ⟨a3, c3, rfl, o3, b3⟩
    have b3' := b2'.trans (b3.mono b2'.size)
    go_wp2_with fail
    refine (specRows_m a1 n1 cap1 ms _ (h1.below b3') hs1 hg1 m1 hm1).mono ?_
    rintro e w4 ⟨a4, c4, rfl, o4, b4⟩
    have b4' := b3'.trans (b4.mono b3'.size)
    go_wp2_with fail
    refine (l4Same_any a3 a4 m c3 m1 c4 ls.flatten ms.flatten _ (owns_cells (owns_below o3 b4)) (owns_cells o4) hfl hfl1).mono ?_
    rintro e w5 ⟨rfl, b5⟩
    go_wp2
    go_ret
    exact ⟨rfl, b4'.trans (b5.mono b4'.size)⟩
  · have h0 : Ch.leavesFault ls = 0 := by simpa using hc
    have hcc : (Ch.leavesFault ms == 0) = false := by simpa using hc1
    rw [Ch.sameR_no2 hc1]
    rw [h0] at FA
    generalize Ch.leavesFault ms = cb at *
    go_enter Try.func45, Try.ntmps45
    go_wp2_with fail
    refine (FA _ h).mono ?_
    rintro e w1 ⟨rfl, b1⟩
    go_wp2_with fail
    refine (FB _ (h1.below b1)).mono ?_
    rintro e w2 ⟨rfl, b2⟩
    go_wp2
    go_ret
    exact ⟨rfl, b1.trans (b2.mono b1.size)⟩
  · have hcc : (Ch.leavesFault ls == 0) = false := by simpa using hc
    rw [Ch.sameR_no hc]
    generalize Ch.leavesFault ls = ca at *
    go_enter Try.func45, Try.ntmps45
    go_wp2_with fail
    refine (FA _ h).mono ?_
    rintro e w1 ⟨rfl, b1⟩
    go_wp2
    go_ret
    exact ⟨rfl, b1⟩
end Go.Proofs.Ytofhkncdjjlllaa
