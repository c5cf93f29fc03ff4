
/- CommittedOf of the program and of the model. -/
import Derived.Test.YtoijjjckdggglaaGreatRvA
import Derived.Test.YtoijjjckdggglaaGreatLkN
import Derived.Test.YtoijjjckdggglaaGreatAppX
import Derived.Test.YtoijjjckdggglaaGreatHm
import Derived.Lib.SmallJoins
namespace Go.Proofs.YtoijjjckdggglaaGreat
open Go.RowKit

theorem ret_boolV {a b : Bool} (h : a = b) : Ending.returned (.bool a) = .returned (.bool b) := by rw [h]
theorem own_empty (w : World) (B : Nat) (e : TypeId) (size : Nat) (hB : B ≤ w.heap.size) : (w.alloc (.cells #[] e)).ownsRow B e size (.slice (some ⟨w.heap.size, 0, none⟩) 0 0) 0 [] :=
  World.ownsRow_lit w #[] 0 hB (by unfold maxLen; omega) (by simp)
theorem own_apartV {w : World} {base : Nat} {e : TypeId} {size : Nat} {v : Value} {n : Nat} {xs : List Value} (h : w.ownsRow base e size v n xs) {b : Nat} (hb : b < base) : v.ownBlock ≠ some b := by
  intro he
  have := (owns_lt h b he).1
  omega
theorem block_belowV {w w' : World} (hb : Below w.heap.size w w') {b : Nat} {o : Obj} (h : w.heap[b]? = some o) : w'.heap[b]? = some o :=
  (hb.block b (Array.getElem?_eq_some_iff.1 h).1).trans h
theorem block_grownV {w w' : World} {row : Option Nat} {b : Nat} {o : Obj} (hg : w.grownBy w' row) (h : w.heap[b]? = some o) (hne : row ≠ some b) : w'.heap[b]? = some o :=
  (hg.block b (Array.getElem?_eq_some_iff.1 h).1 (fun e => hne e.symm)).trans h
theorem Ch.has_snocV {zs : List Int} {v : Int} {k : Nat} (hk : k < zs.length) : (zs.take (k + 1)).contains v = ((zs.take k).contains v || (zs.getD k 0 == v)) := by
  rw [List.take_add_one, List.getElem?_eq_getElem hk, Bool.eq_iff_iff]
  simp only [Option.toList_some, List.getD, List.getElem?_eq_getElem hk, Option.getD_some, List.contains_iff_mem, List.mem_append, List.mem_singleton, Bool.or_eq_true, beq_iff_eq]
  exact or_congr_right ⟨fun h => h.symm, fun h => h.symm⟩
theorem Ch.has_yesV {zs : List Int} {v : Int} {k : Nat} (hk : k < zs.length) (h : zs.getD k 0 = v) : zs.contains v = true := by
  rw [List.contains_iff_mem, ← h]
  simp [List.getD, hk]

theorem amongV_any (a : Option Addr) (n cap : Nat) (v : Int) (zs : List Int) (w : World) (h : CellsAt w a (n * 1) (icells zs)) (hn : n ≤ 4194304) :
    Calls Tryz.prog 47 #[.slice a n cap, .int .i64 v] w fun e w' => e = .returned (.bool (zs.contains v)) ∧ w' = w := by
  have HL := h.ilen
  obtain ⟨c, HC⟩ : ∃ c, Hid (zs.contains v = c) := ⟨_, rfl⟩
  rw [HC.out]
  go_enter Tryz.func47, Tryz.ntmps47
  go_wp2
  go_loop [5] (fun i => ∃ k : Nat, k ≤ n ∧ i = .int .i64 k ∧ Hid ((zs.take k).contains v = false)) (fun i => n - (intOf i).toNat)
  case atStart => exact ⟨0, Nat.zero_le _, rfl, rfl⟩
  case round =>
    obtain ⟨k, hk, rfl, HH⟩ := hrel
    by_cases hlt : k < n
    · have hkl : k < zs.length := by have := HL.out; omega
      have HY := hid (fun he => Ch.has_yesV (v := v) hkl he)
      have HN := hid (Ch.has_snocV (v := v) hkl)
      obtain ⟨b, off, rfl, hc0⟩ := h.int hlt
      have hbl := lt_of_cell hc0
      generalize zs.getD k 0 = z at *
      by_cases he : z = v
      · replace HY := hid (HY.out he)
        have e1 : (z == v) = true := by simpa using he
        clear he HN
        go_wp2
        go_ret
        exact ⟨ret_boolV (HY.out.symm.trans HC.out), rfl⟩
      · have e1 : (z == v) = false := by simpa using he
        rw [HH.out, e1] at HN
        clear he HY
        go_wp2
        go_round
        case rel => exact ⟨k + 1, by omega, by go_num, HN.out⟩
        case measure => simp [intOf]; omega
    · obtain rfl : k = n := by omega
      go_wp2
      go_ret
      exact ⟨ret_boolV (by have h1 := HH.out; have h2 := HL.out; rw [h2, List.take_length] at h1; exact h1.symm.trans HC.out), rfl⟩

/-- What the place of a value tells. -/
def IdxIs (c : Bool) (q : Int) : Prop := if c = true then 0 ≤ q else q < 0
theorem idx_none : IdxIs false (-1) := by unfold IdxIs; decide
set_option linter.unusedSimpArgs false in
set_option maxRecDepth 20000 in
set_option maxHeartbeats 2000000 in
theorem kind_any (a : Option Addr) (n cap : Nat) (kd : Int) (rs : List Ch.Rec) (w : World) (h : CellsAt w a (n * 7) (rc7 rs)) (hn : n ≤ 1048576) :
    Calls Tryz.prog 67 #[.slice a n cap, .int .i64 kd] w fun e w' => ∃ a' m c', e = .returned (.slice a' m c') ∧ m ≤ n ∧ w'.ownsRow w.heap.size 2 1 (.slice a' m c') m (icells (Ch.kindL rs kd)) ∧ Below w.heap.size w w' := by
  have HL := h.len7
  obtain ⟨i0, hi0, hz0, hz1, hz2⟩ := info_parts Tryz.info2
  have oE := own_empty w w.heap.size 2 1 (Nat.le_refl _)
  have kE : Below w.heap.size w (w.alloc (.cells #[] 2)) := (Below.refl _ _).alloc (Nat.le_refl _) _
  go_enter Tryz.func67, Tryz.ntmps67
  go_wp2
  go_loopw [5, 6] (fun q i wr => ∃ (k m : Nat) (a' : Option Addr) (c' : Nat), k ≤ n ∧ m ≤ k ∧ i = .int .i64 k ∧ q = .slice a' m c' ∧ wr.ownsRow w.heap.size 2 1 (.slice a' m c') m (icells (Ch.kindL (rs.take k) kd)) ∧ Below w.heap.size w wr) (fun _ i _ => n - (intOf i).toNat)
  case atStart => exact ⟨0, 0, _, _, Nat.zero_le _, Nat.le_refl _, rfl, rfl, oE, kE⟩
  case round =>
    clear oE kE
    obtain ⟨k, m, a', c', hk, hmk, rfl, rfl, own, hB⟩ := hrel
    by_cases hlt : k < n
    · have hkl : k < rs.length := by have := HL.out; omega
      have HY := hid (fun h1 h2 => Ch.kindL_yes (kd := kd) hkl h1 h2)
      have HD := hid (fun h2 => Ch.kindL_had (kd := kd) hkl h2)
      have HN := hid (fun h1 => Ch.kindL_no (kd := kd) hkl h1)
      obtain ⟨b, off, rfl, q0, q1, q2, q3, q4, q5, q6⟩ := (h.below hB).rec hlt
      have hbl := lt_of_cell q0
      generalize rs.getD k Ch.Rec.zero = r at *
      obtain ⟨rk, rt, ry, rh, ro, rx, rn⟩ := r
      simp only at q0 q1 q2 q3 q4 q5 q6 HY HN HD
      generalize Ch.kindL (rs.take k) kd = zs at *
      have hsum : m + 1 ≤ 4194304 := by omega
      have IC := fun W hW => amongV_any a' m c' rt zs W hW (by omega)
      by_cases hh : rk = kd
      rotate_left
      · have e1 : (rk == kd) = false := by simpa using hh
        clear IC HY HD
        go_wp2
        go_roundw
        case rel => exact ⟨k + 1, m, a', c', by omega, by omega, by go_num, rfl, by rw [HN.out e1]; exact own, hB⟩
        case measure => simp [intOf]; omega
      · have e1 : (rk == kd) = true := by simpa using hh
        replace HY := hid (HY.out e1)
        clear HN hh
        cases hc : zs.contains rt
        rotate_left
        · rw [hc] at IC
          replace HD := hid (HD.out hc)
          clear HY hc
          go_wp2_with (go_at_call 47; refine (IC _ (owns_cells own)).mono ?_; rintro e w1 ⟨rfl, rfl⟩)
          go_roundw
          case rel => exact ⟨k + 1, m, a', c', by omega, by omega, by go_num, rfl, by rw [HD.out]; exact own, hB⟩
          case measure => simp [intOf]; omega
        · rw [hc] at IC
          replace HY := hid (HY.out hc)
          clear HD hc
          have kQ : Below wr.heap.size wr (wr.alloc (.cells #[.int .i64 rt] 2)) := (Below.refl _ _).alloc (Nat.le_refl _) _
          have own3 := owns_below own kQ
          have hC3 := new_int wr rt 2
          have hb3 : w.heap.size ≤ (wr.alloc (.cells #[.int .i64 rt] 2)).heap.size := by have := hB.size; simp; omega
          have b3 := hB.trans (kQ.mono hB.size)
          go_wp2_with (first | (go_at_call 47; refine (IC _ (owns_cells own)).mono ?_; rintro e w1 ⟨rfl, hw1⟩; obtain rfl := hw1.symm) | (at_builtin; go_must (refine wpList_appX Tryz.underlying25 Tryz.underlying25 hi0 hz0 hz1 hz2 rfl (by omega) (by omega) (.tmp 31) (.tmp 37) ?_ ?_ w.heap.size (.slice a' m c') m (icells zs) _ 1 1 (icells [rt]) ?_ ?_ own3 hC3 (icells_one' [rt]) hsum hb3 ?_; exact rfl; exact rfl; exact rfl; exact rfl; intro a5 c5 w5 own5 gr5 at5; go_frame)))
          go_roundw
          case rel =>
            rw [← icells_append, ← HY.out] at own5
            exact ⟨k + 1, m + 1, a5, c5, by omega, by omega, by go_num, rfl, own5, b3.grown gr5 b3.size (fun g hg => (owns_lt own3 g hg).1)⟩
          case measure => simp [intOf]; omega
    · obtain rfl : k = n := by omega
      have HWF : Hid (rs.take k = rs) := by have := HL.out; show _ = _; rw [this]; exact List.take_length
      rw [HWF.out] at own
      go_wp2
      go_ret
      exact ⟨a', m, c', rfl, by omega, own, hB⟩
end Go.Proofs.YtoijjjckdggglaaGreat
