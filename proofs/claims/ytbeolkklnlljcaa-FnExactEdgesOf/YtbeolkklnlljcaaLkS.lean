
/- Walks of the laws' functions on locks: sizes, copies, comparisons. -/
import Derived.Test.YtbeolkklnlljcaaLkO
import Derived.Test.YtbeolkklnlljcaaLkG
namespace Go.Proofs.Ytbeolkklnlljcaa
open Go.RowKit

theorem szHolds_any (a : Option Addr) (n cap L : Nat) (w : World) (hL : L ≤ 1048576) (hm : n ≤ 9223372036854775807) :
    Calls Try.prog 150 #[.slice a n cap, .int .i64 L] w fun e w' => e = .returned (.int .i64 (if n ≤ L then (L : Int) - n else -1)) ∧ w' = w := by
  by_cases h : n ≤ L
  · rw [if_pos h]
    go_enter Try.func150, Try.ntmps150
    go_wp2
    go_ret
    exact ⟨rfl, rfl⟩
  · rw [if_neg h]
    have h' : L < n := by omega
    clear h
    go_enter Try.func150, Try.ntmps150
    go_wp2
    go_ret
    exact ⟨rfl, rfl⟩

theorem szLock_yes (r : Int) (ah : Option Addr) (nh ch : Nat) (aq : Option Addr) (nq cq M : Nat) (w : World) (hL : nh + (nq + M) ≤ 1048576) :
    Calls Try.prog 102 #[.agg #[.int .i64 r, .slice ah nh ch, .slice aq nq cq], .int .i64 ((nh + (nq + M) : Nat) : Int)] w fun e w' => e = .returned (.int .i64 (M : Int)) ∧ Below w.heap.size w w' := by
  have I1 := fun W => szHolds_any ah nh ch (nh + (nq + M)) W hL (by omega)
  have I2 := fun W => szHolds_any aq nq cq (nq + M) W (by omega) (by omega)
  rw [if_pos (by omega), show ((nh + (nq + M) : Nat) : Int) - (nh : Int) = ((nq + M : Nat) : Int) by omega] at I1
  rw [if_pos (by omega), show ((nq + M : Nat) : Int) - (nq : Int) = (M : Int) by omega] at I2
  generalize nq + M = N2 at *
  generalize nh + N2 = N1 at *
  go_enter Try.func102, Try.ntmps102
  go_wp2_with fail
  refine (I1 _).mono ?_
  rintro e w1 ⟨rfl, rfl⟩
  go_wp2_with fail
  refine (I2 _).mono ?_
  rintro e w1 ⟨rfl, rfl⟩
  go_wp2
  go_ret
  exact ⟨rfl, (Below.refl _ _).alloc (Nat.le_refl _) _⟩

theorem szLock_no (r : Int) (ah : Option Addr) (nh ch : Nat) (aq : Option Addr) (nq cq L : Nat) (w : World) (hL : L ≤ 1048576) (hn : nh ≤ 9223372036854775807) (hq : nq ≤ 9223372036854775807) (hb : L < nh + nq) :
    Calls Try.prog 102 #[.agg #[.int .i64 r, .slice ah nh ch, .slice aq nq cq], .int .i64 (L : Int)] w fun e w' => e = .returned (.int .i64 (-1)) ∧ Below w.heap.size w w' := by
  have I1 := fun W => szHolds_any ah nh ch L W hL hn
  by_cases h : nh ≤ L
  · obtain ⟨M, rfl⟩ : ∃ M, L = nh + M := ⟨L - nh, by omega⟩
    have I2 := fun W => szHolds_any aq nq cq M W (by omega) hq
    rw [if_pos h, show ((nh + M : Nat) : Int) - (nh : Int) = (M : Int) by omega] at I1
    rw [if_neg (by omega)] at I2
    clear hb h
    generalize nh + M = L at *
    go_enter Try.func102, Try.ntmps102
    go_wp2_with fail
    refine (I1 _).mono ?_
    rintro e w1 ⟨rfl, rfl⟩
    go_wp2_with fail
    refine (I2 _).mono ?_
    rintro e w1 ⟨rfl, rfl⟩
    go_wp2
    go_ret
    exact ⟨rfl, (Below.refl _ _).alloc (Nat.le_refl _) _⟩
  · rw [if_neg h] at I1
    clear hb h
    go_enter Try.func102, Try.ntmps102
    go_wp2_with fail
    refine (I1 _).mono ?_
    rintro e w1 ⟨rfl, rfl⟩
    go_wp2
    go_ret
    exact ⟨rfl, (Below.refl _ _).alloc (Nat.le_refl _) _⟩

set_option maxHeartbeats 800000 in
theorem szLockS_any (a : Option Addr) (n cap : Nat) (ls : List Ch.Lock) (w : World) (h : LkAt w a n ls) (hm : n ≤ 9223372036854775807) :
    Calls Try.prog 39 #[.slice a n cap, .int .i64 1048576] w fun e w' => e = .returned (.int .i64 (Ch.lkLeft ls)) ∧ Below w.heap.size w w' := by
  have HL := h.len
  by_cases hn : 1048576 < n
  · go_enter Try.func39, Try.ntmps39
    go_wp2
    go_ret
    exact ⟨ret_int (Ch.lkLeft_big (by unfold Ch.lkSize; have := HL.out; omega)), Below.refl _ _⟩
  have hn' : n ≤ 1048576 := by omega
  clear hn
  go_enter Try.func39, Try.ntmps39
  go_wp2
  go_loopw [1, 5] (fun q i wr => ∃ k L : Nat, k ≤ n ∧ L ≤ 1048576 ∧ i = .int .i64 k ∧ q = .int .i64 L ∧ Hid (L + n + Ch.lkSum (ls.take k) = 1048576) ∧ Below w.heap.size w wr) (fun _ i _ => n - (intOf i).toNat)
  case atStart => exact ⟨0, 1048576 - n, Nat.zero_le _, by omega, rfl, by go_num, (by show _ = _; simp [Ch.lkSum]; omega), Below.refl _ _⟩
  case round =>
    obtain ⟨k, L, hk, hL, rfl, rfl, HS, hB⟩ := hrel
    by_cases hlt : k < n
    · have HT := hid (Ch.lk_take ls k (by have := HL.out; omega))
      have HE := hid (Ch.lk_le ls (k + 1))
      obtain ⟨b, off, ah, nh, ch, aq, nq, cq, rfl, hc0, hc1, hc2, h3, h4, hnh, hnq, _, _⟩ := (h.below hB).lock hlt
      have HR := h3.hlen
      have HR2 := h4.hlen
      have hbl := lt_of_cell hc0
      generalize Ch.lkAt ls k = l at *
      obtain ⟨r, lhs, lqs⟩ := l
      simp only at hc0 HR HR2 HT
      by_cases hle : nh + nq ≤ L
      · obtain ⟨M, rfl⟩ : ∃ M, L = nh + (nq + M) := ⟨L - nh - nq, by omega⟩
        have I1 := fun W => szLock_yes r ah nh ch aq nq cq M W hL
        have HS2 : Hid (M + n + Ch.lkSum (ls.take (k + 1)) = 1048576) := by have h1 := HS.out; have h2 := HT.out; have h3 := HR.out; have h4 := HR2.out; show _ = _; omega
        have hM : M ≤ 1048576 := by omega
        clear HS hle hL
        generalize nh + (nq + M) = L at *
        go_wp2_with fail
        refine (I1 _).mono ?_
        rintro e w1 ⟨rfl, b1⟩
        have hB1 := hB.trans (b1.mono hB.size)
        go_wp2
        go_roundw
        case rel => exact ⟨k + 1, M, by omega, by omega, by go_num, rfl, HS2.out, hB1⟩
        case measure => simp [intOf]; omega
      · have I1 := fun W => szLock_no r ah nh ch aq nq cq L W hL hnh hnq (by omega)
        have HX : Hid (1048576 < Ch.lkSize ls) := by unfold Ch.lkSize; have h0 := HL.out; have h1 := HS.out; have h2 := HT.out; have h3 := HR.out; have h4 := HE.out; have h5 := HR2.out; show _ < _; omega
        clear hle
        go_wp2_with fail
        refine (I1 _).mono ?_
        rintro e w1 ⟨rfl, b1⟩
        have hB1 := hB.trans (b1.mono hB.size)
        go_wp2
        go_ret
        exact ⟨ret_int (Ch.lkLeft_big HX.out), hB1⟩
    · obtain rfl : k = n := by omega
      go_wp2
      go_ret
      refine ⟨ret_int ?_, hB⟩
      have h0 := HL.out
      have h1 := HS.out
      rw [List.take_of_length_le (by omega)] at h1
      rw [Ch.lkLeft, if_pos (by unfold Ch.lkSize; omega)]
      unfold Ch.lkSize
      omega

theorem toHold_any (t m : Int) (w : World) :
    Calls Try.prog 166 #[.agg #[.int .i64 t, .int .i64 m]] w fun e w' => e = .returned (.agg #[.int .i64 t, .int .i64 m]) ∧ Below w.heap.size w w' := by
  go_enter Try.func166, Try.ntmps166
  go_wp2
  exact bodyPost_ret (v := .agg #[.int .i64 t, .int .i64 m]) (by simp [results, Try.results166, go_sem]) rfl
    ⟨rfl, (((Below.refl _ _).alloc (Nat.le_refl _) _).alloc (by simp) _).alloc (by simp; omega) _⟩

theorem made_cells (z : Value) (n size : Nat) (hz : z.cells.size = size) (hs : 0 < size) (f : Nat → List Value) (hf : ∀ i, f i = z.cells.toList) : (madeCells z.cells (n * size)).toList = (List.range n).flatMap f := by
  have key : ∀ (l : List Nat) (j : Nat), j < l.length * size → (l.flatMap f)[j]? = z.cells[j % size]? := by
    intro l
    induction l with
    | nil => intro j hj; simp at hj
    | cons a l ih =>
      intro j hj
      rw [List.flatMap_cons]
      by_cases hjs : j < size
      · rw [List.getElem?_append_left (by rw [hf]; simpa [hz] using hjs), hf, Nat.mod_eq_of_lt hjs]; simp
      · rw [List.getElem?_append_right (by rw [hf]; simp [hz]; omega), hf]
        have hj2 : j - size < l.length * size := by
          simp only [List.length_cons, Nat.add_mul, Nat.one_mul] at hj; omega
        have := ih (j - size) hj2
        simp only [Array.length_toList, hz]
        rw [this]
        congr 1
        conv => rhs; rw [show j = j - size + size by omega]
        rw [Nat.add_mod_right]
  apply List.ext_getElem?
  intro j
  by_cases hj : j < n * size
  · rw [key (List.range n) j (by simpa using hj)]
    simp [madeCells, hj]
    rw [Array.getElem?_eq_getElem (by rw [hz]; exact Nat.mod_lt _ hs)]
    simp [hz]
    exact getElem!_pos z.cells (j % size) (by rw [hz]; exact Nat.mod_lt _ hs)
  · rw [List.getElem?_eq_none (by simp [madeCells]; omega), List.getElem?_eq_none (by
      have : ((List.range n).flatMap f).length = n * size := by
        have e : ∀ l : List Nat, (l.flatMap f).length = l.length * size := by
          intro l
          induction l with
          | nil => simp
          | cons a l ih => rw [List.flatMap_cons, List.length_append, ih, hf]; simp [hz, Nat.add_mul]; omega
        rw [e]; simp
      omega)]

theorem made_holds (n : Nat) : (madeCells (Value.agg #[.int .i64 0, .int .i64 0]).cells (n * 2)).toList = hcells (List.replicate n Ch.Hold.zero) := by
  rw [made_cells _ n 2 rfl (by decide) (fun _ => [.int .i64 0, .int .i64 0]) (fun _ => rfl)]
  induction n with
  | zero => rfl
  | succ n ih => rw [List.range_succ, List.flatMap_append, ih, List.replicate_succ', hcells_append]; rfl
def hcopied (rs : List Ch.Hold) (n k : Nat) : List Value := hcells (rs.take k ++ List.replicate (n - k) Ch.Hold.zero)
theorem hcopied_end {rs : List Ch.Hold} {n : Nat} (h : n = rs.length) : hcopied rs n n = hcells rs := by
  subst h; simp [hcopied]
theorem hcopied_set {rs : List Ch.Hold} {n k : Nat} (h : n = rs.length) (hk : k < n) : ((hcopied rs n k).set (k * 2) (.int .i64 (rs.getD k Ch.Hold.zero).t)).set (k * 2 + 1) (.int .i64 (rs.getD k Ch.Hold.zero).m) = hcopied rs n (k + 1) := by
  unfold hcopied
  rw [hcells_set _ _ _ (by simp; omega), fill_set rs _ _ n k h hk]
theorem owns_stored2 {w : World} {base : Nat} {e : TypeId} {size g n cap : Nat} {xs : List Value} (h : w.ownsRow base e size (.slice (some ⟨g, 0, none⟩) n cap) n xs) (j : Nat) (a b : Value) :
    ((w.setCell ⟨g, j, none⟩ a).setCell ⟨g, j + 1, none⟩ b).ownsRow base e size (.slice (some ⟨g, 0, none⟩) n cap) n ((xs.set j a).set (j + 1) b) :=
  ((h.stored j a).1.stored (j + 1) b).1

set_option maxHeartbeats 400000 in
theorem toHoldS_any (a : Option Addr) (n cap : Nat) (rs : List Ch.Hold) (w : World) (h : CellsAt w a (n * 2) (hcells rs)) (hn : n ≤ 1048576) :
    Calls Try.prog 151 #[.slice a n cap] w fun e w' => e = .returned (.slice (some ⟨w.heap.size, 0, none⟩) n n) ∧
      w'.ownsRow w.heap.size 120 2 (.slice (some ⟨w.heap.size, 0, none⟩) n n) n (hcells rs) ∧ Below w.heap.size w w' := by
  have HL := h.hlen
  obtain ⟨i0, hi, hz0, hz1, hz2⟩ := info_parts Try.info120
  go_enter Try.func151, Try.ntmps151
  go_wp2_with (at_make; refine wpList_make_full _ rfl _ _ 93 rfl w.heap.size 120 i0 (.agg #[.int .i64 0, .int .i64 0]) 2 Try.underlying93 hi hz0 hz1 .i64 .i64 _ _ n rfl rfl rfl rfl (by rw [hz2]; omega) (by unfold maxLen; omega) (Nat.le_refl _) ?_; intro w0 hown0 hgrow0)
  have hB0 : Below w.heap.size w w0 := (Below.refl _ _).grown hgrow0 (Nat.le_refl _) (by simp)
  go_loopw [4] (fun i wr => ∃ k : Nat, k ≤ n ∧ i = .int .i64 k ∧ wr.ownsRow w.heap.size 120 2 (.slice (some ⟨w.heap.size, 0, none⟩) n n) n (hcopied rs n k) ∧ Below w.heap.size w wr) (fun i _ => n - (intOf i).toNat)
  case atStart => exact ⟨0, Nat.zero_le _, rfl, by rw [made_holds] at hown0; simpa [hcopied] using hown0, hB0⟩
  case round =>
    obtain ⟨k, hk, rfl, hown, hB⟩ := hrel
    by_cases hlt : k < n
    · obtain ⟨b, off, rfl, hc0, hc1⟩ := (h.below hB).hold hlt
      have HC := hid (hcopied_set HL.out hlt)
      generalize rs.getD k Ch.Hold.zero = r at *
      obtain ⟨rt, rm⟩ := r
      simp only at hc0 hc1 HC
      go_wp2_with fail
      refine (toHold_any _ _ _).mono ?_
      rintro e w1 ⟨rfl, b1⟩
      have hown1 := owns_below hown b1
      have hf0 := hown1.frozenAt (k * 2)
      have hf1 := hown1.frozenAt (k * 2 + 1)
      obtain ⟨u0, hd0⟩ := owns_some hown1 (j := k * 2) (by omega)
      obtain ⟨u1, hd1⟩ := owns_some hown1 (j := k * 2 + 1) (by omega)
      go_wp2
      go_roundw
      case rel =>
        refine ⟨k + 1, by omega, by go_num, ?_, ?_⟩
        · rw [← HC.out]; exact owns_stored2 hown1 _ _ _
        · exact ((hB.trans (b1.mono hB.size)).setCell (Nat.le_refl _) _).setCell (Nat.le_refl _) _
      case measure => simp [intOf]; omega
    · obtain rfl : k = n := by omega
      go_wp2
      go_ret
      exact ⟨rfl, by rw [hcopied_end HL.out] at hown; exact hown, hB⟩

theorem toHoldS_at (H : Nat) (a : Option Addr) (n cap : Nat) (rs : List Ch.Hold) (w : World) (hH : w.heap.size = H) (h : CellsAt w a (n * 2) (hcells rs)) (hn : n ≤ 1048576) :
    Calls Try.prog 151 #[.slice a n cap] w fun e w' => e = .returned (.slice (some ⟨H, 0, none⟩) n n) ∧
      w'.ownsRow H 120 2 (.slice (some ⟨H, 0, none⟩) n n) n (hcells rs) ∧ Below w.heap.size w w' := by
  subst hH
  exact toHoldS_any a n cap rs w h hn

theorem eqHold_same (t m : Int) (w : World) :
    Calls Try.prog 167 #[.agg #[.int .i64 t, .int .i64 m], .agg #[.int .i64 t, .int .i64 m]] w fun e w' => e = .returned (.bool true) ∧ Below w.heap.size w w' := by
  have h0 : (t != t) = false := by simp
  have h1 : (m != m) = false := by simp
  go_enter Try.func167, Try.ntmps167
  go_wp2
  go_ret
  exact ⟨rfl, ((Below.refl _ _).alloc (Nat.le_refl _) _).alloc (by simp) _⟩

set_option maxHeartbeats 400000 in
theorem eqHoldS_same (a a' : Option Addr) (n cap cap' : Nat) (rs : List Ch.Hold) (w : World) (h : CellsAt w a (n * 2) (hcells rs)) (h' : CellsAt w a' (n * 2) (hcells rs)) (hn : n ≤ 1048576) :
    Calls Try.prog 152 #[.slice a n cap, .slice a' n cap'] w fun e w' => e = .returned (.bool true) ∧ Below w.heap.size w w' := by
  have HL := h.hlen
  have hnn : ((n : Int) != n) = false := by simp
  go_enter Try.func152, Try.ntmps152
  go_wp2
  go_loopw [5] (fun i wr => ∃ k : Nat, k ≤ n ∧ i = .int .i64 k ∧ Below w.heap.size w wr) (fun i _ => n - (intOf i).toNat)
  case atStart => exact ⟨0, Nat.zero_le _, rfl, Below.refl _ _⟩
  case round =>
    obtain ⟨k, hk, rfl, hB⟩ := hrel
    by_cases hlt : k < n
    · obtain ⟨b, off, rfl, hc0, hc1⟩ := (h.below hB).hold hlt
      obtain ⟨b', off', rfl, hd0, hd1⟩ := (h'.below hB).hold hlt
      generalize rs.getD k Ch.Hold.zero = r at *
      obtain ⟨rt, rm⟩ := r
      simp only at hc0 hc1 hd0 hd1
      go_wp2
      go_region_with (go_at_call 167; refine (eqHold_same _ _ _).mono ?_; rintro e w1 ⟨rfl, b1⟩)
      all_goals
        have b1' : Below wr.heap.size wr _ := ⟨b1.os, b1.tape, b1.output, b1.size, b1.block⟩
        clear b1
        go_wp2
        go_roundw
        case rel => exact ⟨k + 1, by omega, by go_num, hB.trans (b1'.mono hB.size)⟩
        case measure => simp [intOf]; omega
    · obtain rfl : k = n := by omega
      go_wp2
      go_ret
      exact ⟨rfl, hB⟩
end Go.Proofs.Ytbeolkklnlljcaa
