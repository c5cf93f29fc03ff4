
/- Walks of functions on rows: bounds, faults, copies, comparisons, marks. -/
import Derived.Test.YtlpncikiaojmiaaProg
import Derived.Test.YtlpncikiaojmiaaMath
import Derived.Test.YtlpncikiaojmiaaBase
import Derived.Deep.QuietTactic
import Derived.BigQuiet
import Derived.Deep.RegionWith
import Derived.Deep.RegionHeld3
import Derived.Deep.AppendLies
namespace Go.Proofs.Ytlpncikiaojmiaa
open Go.RowKit

theorem in_any (v lo hi : Int) (w : World) :
    Calls Try.prog 78 #[.int .i64 v, .int .i64 lo, .int .i64 hi] w fun e w' => e = .returned (.bool (Ch.inB v lo hi)) ∧ w' = w := by
  unfold Ch.inB
  by_cases h1 : lo ≤ v
  all_goals by_cases h2 : v ≤ hi
  all_goals
    go_enter Try.func78, Try.ntmps78
    go_wp2
    go_ret
    exact ⟨by simp [h1, h2], rfl⟩

theorem key_any (v : Int) (w : World) :
    Calls Try.prog 54 #[.int .i64 v] w fun e w' => e = .returned (.bool (Ch.inB v 0 99)) ∧ w' = w := by
  go_enter Try.func54, Try.ntmps54
  go_wp2_with (go_at_call 78; refine (in_any _ _ _ _).mono ?_; rintro e w' ⟨rfl, rfl⟩)
  go_ret
  exact ⟨rfl, rfl⟩

theorem value_any (v : Int) (w : World) :
    Calls Try.prog 79 #[.int .i64 v] w fun e w' => e = .returned (.bool (Ch.inB v 0 9999)) ∧ w' = w := by
  go_enter Try.func79, Try.ntmps79
  go_wp2_with (go_at_call 78; refine (in_any _ _ _ _).mono ?_; rintro e w' ⟨rfl, rfl⟩)
  go_ret
  exact ⟨rfl, rfl⟩

theorem isKey_any (v : Int) (w : World) :
    Calls Try.prog 57 #[.int .i64 v] w fun e w' => e = .returned (.bool (Ch.inB v 0 99)) ∧ w' = w := by
  unfold Ch.inB
  by_cases h1 : 0 ≤ v
  all_goals by_cases h2 : v ≤ 99
  all_goals
    go_enter Try.func57, Try.ntmps57
    go_wp2
    go_ret
    exact ⟨by simp [h1, h2], rfl⟩

theorem isValue_any (v : Int) (w : World) :
    Calls Try.prog 89 #[.int .i64 v] w fun e w' => e = .returned (.bool (Ch.inB v 0 9999)) ∧ w' = w := by
  unfold Ch.inB
  by_cases h1 : 0 ≤ v
  all_goals by_cases h2 : v ≤ 9999
  all_goals
    go_enter Try.func89, Try.ntmps89
    go_wp2
    go_ret
    exact ⟨by simp [h1, h2], rfl⟩

theorem ret_int {k : IntKind} {a b : Int} (h : a = b) : Ending.returned (.int k a) = .returned (.int k b) := by rw [h]

theorem hid {p : Prop} (h : p) : Hid p := h

theorem gr_trans {a b c : World} {g : Nat} (h : a.grownBy b (some g)) (k : b.grownBy c (some g)) : a.grownBy c (some g) :=
  ⟨k.os.trans h.os, k.tape.trans h.tape, k.output.trans h.output, Nat.le_trans h.size k.size, fun j hj hne => (k.block j (Nat.lt_of_lt_of_le hj h.size) hne).trans (h.block j hj hne)⟩

theorem owns_lt {w : World} {base : Nat} {e : TypeId} {size : Nat} {v : Value} {n : Nat} {xs : List Value} (h : w.ownsRow base e size v n xs) (g : Nat) (hg : v.ownBlock = some g) : base ≤ g ∧ g < w.heap.size := by
  rcases h.2 with ⟨hv, _⟩ | ⟨g', cap', cur, hv, hb, hh, _⟩
  · subst hv; simp [Value.ownBlock] at hg
  · subst hv
    simp [Value.ownBlock] at hg
    subst hg
    refine ⟨hb, ?_⟩
    by_cases hlt : g' < w.heap.size
    · exact hlt
    · rw [Array.getElem?_eq_none (by omega)] at hh; cases hh

theorem owns_grown {w w' : World} {base : Nat} {e : TypeId} {size : Nat} {v : Value} {n : Nat} {xs : List Value} {row : Option Nat} (h : w.ownsRow base e size v n xs) (hg : w.grownBy w' row) (hne : ∀ g, v.ownBlock = some g → row ≠ some g) : w'.ownsRow base e size v n xs := by
  refine ⟨h.1, ?_⟩
  rcases h.2 with h' | ⟨g, cap, cur, hv, hb, hh, h1, h2, h3, h4⟩
  · exact .inl h'
  · refine .inr ⟨g, cap, cur, hv, hb, ?_, h1, h2, h3, h4⟩
    have hlt := (owns_lt h g (by rw [hv]; rfl)).2
    have := hne g (by rw [hv]; rfl)
    rw [hg.block g hlt (fun e => this e.symm)]; exact hh

theorem grown_cell {w w' : World} {row : Option Nat} (hg : w.grownBy w' row) {b o : Nat} {v : Value} (h : w.cell? ⟨b, o, none⟩ = some v) (hne : row ≠ some b) : w'.cell? ⟨b, o, none⟩ = some v :=
  (World.grownBy.cell_far hg ⟨b, o, none⟩ (lt_of_cell h) (fun e => hne e.symm)).trans h

theorem cells_grown {w w' : World} {row : Option Nat} {a : Option Addr} {m : Nat} {xs : List Value} (h : CellsAt w a m xs) (hg : w.grownBy w' row) (hB : ∀ b off, a = some ⟨b, off, none⟩ → row ≠ some b) : CellsAt w' a m xs := by
  refine ⟨h.1, fun hm => ?_⟩
  obtain ⟨b, off, ha, hc⟩ := h.2 hm
  refine ⟨b, off, ha, fun i hi => ?_⟩
  have hx : xs[i]? = some (xs[i]'(by rw [h.1]; exact hi)) := by simp
  rw [hx]
  exact grown_cell hg ((hc i hi).trans hx) (hB b off ha)

theorem gr_alloc {w w' : World} {o : Obj} {row : Option Nat} (h : (w.alloc o).grownBy w' row) : w.grownBy w' row :=
  ⟨h.os, h.tape, h.output, by have := h.size; simp at this; omega, fun k hk hne => (h.block k (by simp; omega) hne).trans (Below.heap_alloc w o k hk)⟩

theorem Ch.set_mid {α : Type} (l : List α) (zs : List α) (k : Nat) (v : α) (hl : l.length = k) (h : k < zs.length) : (l ++ zs.drop k).set k v = (l ++ [v]) ++ zs.drop (k + 1) := by
  rw [List.set_append_right _ _ (by omega), hl, Nat.sub_self, List.drop_eq_getElem_cons h, List.set_cons_zero]
  simp

theorem toRow_any (k v : Int) (g : Bool) (w : World) :
    Calls Try.prog 37 #[.agg #[.int .i64 k, .int .i64 v, .bool g]] w fun e w' => e = .returned (.agg #[.int .i64 k, .int .i64 v, .bool g]) ∧ Below w.heap.size w w' := by
  go_enter Try.func37, Try.ntmps37
  go_wp2
  exact bodyPost_ret (v := .agg #[.int .i64 k, .int .i64 v, .bool g]) (by simp [results, Try.results37, go_sem]) rfl
    ⟨rfl, (((Below.refl _ _).alloc (Nat.le_refl _) _).alloc (by simp) _).alloc (by simp; omega) _⟩

set_option maxHeartbeats 400000 in
theorem specRow_any (k v : Int) (g : Bool) (w : World) :
    Calls Try.prog 84 #[.agg #[.int .i64 k, .int .i64 v, .bool g]] w fun e w' => e = .returned (.int .i64 (Ch.rowFault k v g)) ∧ Below w.heap.size w w' := by
  unfold Ch.rowFault
  cases hk : Ch.inB k 0 99
  all_goals cases hv : Ch.inB v 0 9999
  all_goals cases g
  all_goals cases h0 : (v != 0)
  all_goals
    go_enter Try.func84, Try.ntmps84
    go_wp2_with (first | (go_at_call 54; refine (key_any _ _).mono ?_; rintro e w' ⟨rfl, rfl⟩) | (go_at_call 79; refine (value_any _ _).mono ?_; rintro e w' ⟨rfl, rfl⟩))
    go_ret
    exact ⟨by simp, (Below.refl _ _).alloc (Nat.le_refl _) _⟩

set_option maxHeartbeats 400000 in
theorem implRow_any (k v : Int) (g : Bool) (w : World) :
    Calls Try.prog 108 #[.agg #[.int .i64 k, .int .i64 v, .bool g]] w fun e w' => e = .returned (.int .i64 (Ch.rowFault k v g)) ∧ Below w.heap.size w w' := by
  unfold Ch.rowFault
  cases hk : Ch.inB k 0 99
  all_goals cases hv : Ch.inB v 0 9999
  all_goals cases g
  all_goals cases h0 : (v != 0)
  all_goals
    go_enter Try.func108, Try.ntmps108
    go_wp2_with (first | (go_at_call 57; refine (isKey_any _ _).mono ?_; rintro e w' ⟨rfl, rfl⟩) | (go_at_call 89; refine (isValue_any _ _).mono ?_; rintro e w' ⟨rfl, rfl⟩))
    go_ret
    exact ⟨by simp, (Below.refl _ _).alloc (Nat.le_refl _) _⟩

theorem Try.info64 : (Try.prog.info? 64).map (fun i => (i.zero, i.size, i.bytes)) = some (some (.agg #[.int .i64 0, .int .i64 0, .bool false]), 3, 24) := by kernel_rfl

/-- What the copy holds behind k rounds. -/
def rcopied (rs : List Ch.Row) (n k : Nat) : List Value := rcells (rs.take k ++ List.replicate (n - k) Ch.Row.zero)

theorem rcopied_end {rs : List Ch.Row} {n : Nat} (h : n = rs.length) : rcopied rs n n = rcells rs := by
  subst h; simp [rcopied]

theorem rcopied_set {rs : List Ch.Row} {n k : Nat} (h : n = rs.length) (hk : k < n) : (((rcopied rs n k).set (k * 3) (.int .i64 (rs.getD k Ch.Row.zero).k)).set (k * 3 + 1) (.int .i64 (rs.getD k Ch.Row.zero).v)).set (k * 3 + 2) (.bool (rs.getD k Ch.Row.zero).g) = rcopied rs n (k + 1) := by
  unfold rcopied
  rw [rcells_set _ _ _ (by simp; omega), fill_set rs _ _ n k h hk]

set_option maxHeartbeats 400000 in
theorem toRowS_any (a : Option Addr) (n cap : Nat) (rs : List Ch.Row) (w : World) (h : CellsAt w a (n * 3) (rcells rs)) (hn : n ≤ 1048576) :
    Calls Try.prog 10 #[.slice a n cap] w fun e w' => e = .returned (.slice (some ⟨w.heap.size, 0, none⟩) n n) ∧
      w'.ownsRow w.heap.size 64 3 (.slice (some ⟨w.heap.size, 0, none⟩) n n) n (rcells rs) ∧ Below w.heap.size w w' := by
  have HL := h.rlen
  obtain ⟨i0, hi, hz0, hz1, hz2⟩ := info_parts Try.info64
  go_enter Try.func10, Try.ntmps10
  go_wp2_with (at_make; refine wpList_make_full _ rfl _ _ 27 rfl w.heap.size 64 i0 (.agg #[.int .i64 0, .int .i64 0, .bool false]) 3 Try.underlying27 hi hz0 hz1 .i64 .i64 _ _ n rfl rfl rfl rfl (by rw [hz2]; omega) (by unfold maxLen; omega) (Nat.le_refl _) ?_; intro w0 hown0 hgrow0)
  have hB0 : Below w.heap.size w w0 := (Below.refl _ _).grown hgrow0 (Nat.le_refl _) (by simp)
  go_loopw [4] (fun i wr => ∃ k : Nat, k ≤ n ∧ i = .int .i64 k ∧ wr.ownsRow w.heap.size 64 3 (.slice (some ⟨w.heap.size, 0, none⟩) n n) n (rcopied rs n k) ∧ Below w.heap.size w wr) (fun i _ => n - (intOf i).toNat)
  case atStart => exact ⟨0, Nat.zero_le _, rfl, by rw [made_rows] at hown0; simpa [rcopied] using hown0, hB0⟩
  case round =>
    obtain ⟨k, hk, rfl, hown, hB⟩ := hrel
    by_cases hlt : k < n
    · obtain ⟨b, off, rfl, hc0, hc1, hc2⟩ := (h.below hB).row hlt
      have HC : Hid ((((rcopied rs n k).set (k * 3) (.int .i64 (rs.getD k Ch.Row.zero).k)).set (k * 3 + 1) (.int .i64 (rs.getD k Ch.Row.zero).v)).set (k * 3 + 2) (.bool (rs.getD k Ch.Row.zero).g) = rcopied rs n (k + 1)) := rcopied_set HL.out hlt
      generalize rs.getD k Ch.Row.zero = r at *
      obtain ⟨rk, rv, rg⟩ := r
      simp only at hc0 hc1 hc2
      go_wp2_with fail
      refine (toRow_any _ _ _ _).mono ?_
      rintro e w1 ⟨rfl, b1⟩
      have hown1 := owns_below hown b1
      have hf0 := hown1.frozenAt (k * 3)
      have hf1 := hown1.frozenAt (k * 3 + 1)
      have hf2 := hown1.frozenAt (k * 3 + 2)
      obtain ⟨u0, hd0⟩ := owns_some hown1 (j := k * 3) (by omega)
      obtain ⟨u1, hd1⟩ := owns_some hown1 (j := k * 3 + 1) (by omega)
      obtain ⟨u2, hd2⟩ := owns_some hown1 (j := k * 3 + 2) (by omega)
      go_wp2
      go_roundw
      case rel =>
        refine ⟨k + 1, by omega, by go_num, ?_, ?_⟩
        · rw [← HC.out]; exact owns_stored3 hown1 _ _ _ _
        · exact (((hB.trans (b1.mono hB.size)).setCell (Nat.le_refl _) _).setCell (Nat.le_refl _) _).setCell (Nat.le_refl _) _
      case measure => simp [intOf]; omega
    · obtain rfl : k = n := by omega
      go_wp2
      go_ret
      exact ⟨rfl, by rw [rcopied_end HL.out] at hown; exact hown, hB⟩

theorem eqRow_same (k v : Int) (g : Bool) (w : World) :
    Calls Try.prog 46 #[.agg #[.int .i64 k, .int .i64 v, .bool g], .agg #[.int .i64 k, .int .i64 v, .bool g]] w fun e w' => e = .returned (.bool true) ∧ Below w.heap.size w w' := by
  have h0 : (k != k) = false := by simp
  have h1 : (v != v) = false := by simp
  have h2 : (g != g) = false := by simp
  go_enter Try.func46, Try.ntmps46
  go_wp2
  go_ret
  exact ⟨rfl, ((Below.refl _ _).alloc (Nat.le_refl _) _).alloc (by simp) _⟩

set_option maxHeartbeats 400000 in
theorem eqRowS_same (a a' : Option Addr) (n cap cap' : Nat) (rs : List Ch.Row) (w : World) (h : CellsAt w a (n * 3) (rcells rs)) (h' : CellsAt w a' (n * 3) (rcells rs)) (hn : n ≤ 1099511627776) :
    Calls Try.prog 15 #[.slice a n cap, .slice a' n cap'] w fun e w' => e = .returned (.bool true) ∧ Below w.heap.size w w' := by
  have HL := h.rlen
  have hnn : ((n : Int) != n) = false := by simp
  go_enter Try.func15, Try.ntmps15
  go_wp2
  go_loopw [5] (fun i wr => ∃ k : Nat, k ≤ n ∧ i = .int .i64 k ∧ Below w.heap.size w wr) (fun i _ => n - (intOf i).toNat)
  case atStart => exact ⟨0, Nat.zero_le _, rfl, Below.refl _ _⟩
  case round =>
    obtain ⟨k, hk, rfl, hB⟩ := hrel
    by_cases hlt : k < n
    · obtain ⟨b, off, rfl, hc0, hc1, hc2⟩ := (h.below hB).row hlt
      obtain ⟨b', off', rfl, hd0, hd1, hd2⟩ := (h'.below hB).row hlt
      generalize rs.getD k Ch.Row.zero = r at *
      obtain ⟨rk, rv, rg⟩ := r
      simp only at hc0 hc1 hc2 hd0 hd1 hd2
      go_wp2
      go_region_with (go_at_call 46; refine (eqRow_same _ _ _ _).mono ?_; rintro e w1 ⟨rfl, b1⟩)
      all_goals
        have b1' : Below wr.heap.size wr _ := ⟨b1.os, b1.tape, b1.output, b1.size, b1.block⟩
        clear b1
        go_wp2
        go_roundw
        case rel => exact ⟨k + 1, by omega, by go_num, hB.trans (b1'.mono hB.size)⟩
        case measure => simp [intOf]; omega
    · obtain rfl : k = n := by omega
      go_wp2
      go_ret
      exact ⟨rfl, hB⟩

theorem returned_int {k : IntKind} {a b : Int} (h : a = b) : Ending.returned (.int k a) = .returned (.int k b) := by rw [h]

set_option maxHeartbeats 800000 in
theorem rise_any (a : Option Addr) (n cap : Nat) (rs : List Ch.Row) (w : World) (h : CellsAt w a (n * 3) (rcells rs)) (hn : n ≤ 1099511627776) :
    Calls Try.prog 85 #[.slice a n cap] w fun e w' => e = .returned (.int .i64 (Ch.rise rs)) ∧ Below w.heap.size w w' := by
  have HL := h.rlen
  go_enter Try.func85, Try.ntmps85
  go_wp2
  go_loopw [3] (fun i wr => ∃ k : Nat, k ≤ n ∧ i = .int .i64 k ∧ Hid (Ch.rise rs = Ch.riseAt rs k) ∧ Below w.heap.size w wr) (fun i _ => n - (intOf i).toNat)
  case atStart => exact ⟨0, Nat.zero_le _, rfl, rfl, Below.refl _ _⟩
  case round =>
    obtain ⟨k, hk, rfl, HR, hB⟩ := hrel
    by_cases hlt : k < n
    · have hkl : k < rs.length := by have := HL.out; omega
      have HF : Hid (((rs.getD k Ch.Row.zero).fault != 0) = true → Ch.rise rs = (rs.getD k Ch.Row.zero).fault) := fun hf => HR.out.trans (Ch.riseAt_fault rs k hkl hf)
      obtain ⟨b, off, rfl, hc0, hc1, hc2⟩ := (h.below hB).row hlt
      cases k with
      | zero =>
        have HN : Hid (((rs.getD 0 Ch.Row.zero).fault != 0) = false → Ch.rise rs = Ch.riseAt rs 1) := fun hf => HR.out.trans (Ch.riseAt_first rs hkl hf)
        generalize rs.getD 0 Ch.Row.zero = r at *
        obtain ⟨rk, rv, rg⟩ := r
        simp only [Ch.Row.fault, Nat.zero_mul, Nat.add_zero] at hc0 hc1 hc2 HF HN
        have hd : decide ((0 : Int) < ((0 : Nat) : Int)) = false := by simp
        cases hf : (Ch.rowFault rk rv rg != 0)
        · go_wp2_with fail
          refine (specRow_any _ _ _ _).mono ?_
          rintro e w1 ⟨rfl, b1⟩
          have hB1 := hB.trans (b1.mono hB.size)
          go_wp2
          go_quiet (fail)
          go_wp2
          go_roundw
          case rel => exact ⟨1, by omega, by go_num, HN.out hf, below_drewN hB1 _⟩
          case measure => simp [intOf]; omega
        · go_wp2_with fail
          refine (specRow_any _ _ _ _).mono ?_
          rintro e w1 ⟨rfl, b1⟩
          have hB1 := hB.trans (b1.mono hB.size)
          go_wp2
          go_ret
          exact ⟨returned_int (HF.out hf).symm, hB1⟩
      | succ j =>
        have HN : Hid (((rs.getD (j + 1) Ch.Row.zero).fault != 0) = false → ¬ (rs.getD (j + 1) Ch.Row.zero).k ≤ (rs.getD j Ch.Row.zero).k → Ch.rise rs = Ch.riseAt rs (j + 1 + 1)) := fun hf hl => HR.out.trans (Ch.riseAt_on rs j hkl hf hl)
        have HM : Hid (((rs.getD (j + 1) Ch.Row.zero).fault != 0) = false → (rs.getD (j + 1) Ch.Row.zero).k ≤ (rs.getD j Ch.Row.zero).k → Ch.rise rs = 1) := fun hf hl => HR.out.trans (Ch.riseAt_low rs j hkl hf hl)
        obtain ⟨b', off', hbo, hp0, _, _⟩ := (h.below hB).row (show j < n by omega)
        simp only [Option.some.injEq, Addr.mk.injEq, and_true] at hbo
        obtain ⟨rfl, rfl⟩ := hbo
        generalize rs.getD (j + 1) Ch.Row.zero = r at *
        generalize (rs.getD j Ch.Row.zero).k = pk at *
        obtain ⟨rk, rv, rg⟩ := r
        simp only [Ch.Row.fault] at hc0 hc1 hc2 HF HN HM
        have hd : (0 : Int) < ((j + 1 : Nat) : Int) := by omega
        cases hf : (Ch.rowFault rk rv rg != 0)
        · by_cases hle : rk ≤ pk
          · go_wp2_with fail
            refine (specRow_any _ _ _ _).mono ?_
            rintro e w1 ⟨rfl, b1⟩
            have hB1 := hB.trans (b1.mono hB.size)
            have d0 := keep_cell b1 hc0
            have q0 := keep_cell b1 hp0
            clear hc0 hc1 hc2 hp0
            go_wp2
            go_quiet (fail)
            go_wp2
            go_ret
            exact ⟨returned_int (HM.out hf hle).symm, below_drewN hB1 _⟩
          · go_wp2_with fail
            refine (specRow_any _ _ _ _).mono ?_
            rintro e w1 ⟨rfl, b1⟩
            have hB1 := hB.trans (b1.mono hB.size)
            have d0 := keep_cell b1 hc0
            have q0 := keep_cell b1 hp0
            clear hc0 hc1 hc2 hp0
            go_wp2
            go_quiet (fail)
            go_wp2
            go_roundw
            case rel => exact ⟨j + 1 + 1, by omega, by go_num, HN.out hf (by omega), below_drewN hB1 _⟩
            case measure => simp [intOf]; omega
        · go_wp2_with fail
          refine (specRow_any _ _ _ _).mono ?_
          rintro e w1 ⟨rfl, b1⟩
          have hB1 := hB.trans (b1.mono hB.size)
          go_wp2
          go_ret
          exact ⟨returned_int (HF.out hf).symm, hB1⟩
    · obtain rfl : k = n := by omega
      go_wp2
      go_ret
      exact ⟨returned_int (by rw [HR.out, Ch.riseAt_end _ _ (by have := HL.out; omega)]), hB⟩

theorem sz_from (a : Option Addr) (n cap L : Nat) (w : World) (hL : L ≤ 1048576) (hm : n ≤ 9223372036854775807) :
    Calls Try.prog 7 #[.slice a n cap, .int .i64 L] w fun e w' => e = .returned (.int .i64 (if n ≤ L then (L : Int) - n else -1)) ∧ w' = w := by
  by_cases h : n ≤ L
  · rw [if_pos h]
    go_enter Try.func7, Try.ntmps7
    go_wp2
    go_ret
    exact ⟨rfl, rfl⟩
  · rw [if_neg h]
    have h' : L < n := by omega
    clear h
    go_enter Try.func7, Try.ntmps7
    go_wp2
    go_ret
    exact ⟨rfl, rfl⟩

/-- The marks that a law writes into rows, the first one s. -/
def rmark (s : Int) (k : Nat) : Ch.Row := ⟨s + 3 * (k : Int), s + 3 * (k : Int) + 1, (s + 3 * (k : Int) + 1 + 1) % 3 == 0⟩
def rmarks (s : Int) (n : Nat) : List Ch.Row := (List.range n).map (rmark s)
theorem rmarks_len (s : Int) (n : Nat) : (rmarks s n).length = n := by simp [rmarks]
theorem rmarks_snoc (s : Int) (n : Nat) : rmarks s (n + 1) = rmarks s n ++ [rmark s n] := by simp [rmarks, List.range_succ]
theorem rmarks_at (s : Int) (n k : Nat) (h : k < n) : (rmarks s n).getD k Ch.Row.zero = rmark s k := by simp [rmarks, List.getD, h]
/-- The rows behind k marks. -/
def rmarked (s : Int) (rs : List Ch.Row) (k : Nat) : List Ch.Row := rmarks s k ++ rs.drop k
theorem rmarked_set (s : Int) (rs : List Ch.Row) (k : Nat) (h : k < rs.length) :
    (((rcells (rmarked s rs k)).set (k * 3) (.int .i64 (s + 3 * (k : Int)))).set (k * 3 + 1) (.int .i64 (s + 3 * (k : Int) + 1))).set (k * 3 + 2) (.bool ((s + 3 * (k : Int) + 1 + 1) % 3 == 0)) = rcells (rmarked s rs (k + 1)) := by
  have := rcells_set (rmarked s rs k) k (rmark s k) (by simp [rmarked, rmarks_len]; omega)
  rw [show rcells (rmarked s rs (k + 1)) = rcells ((rmarked s rs k).set k (rmark s k)) by unfold rmarked; rw [Ch.set_mid _ _ _ _ (rmarks_len s k) h, rmarks_snoc], ← this]
  rfl

set_option maxHeartbeats 800000 in
theorem markRowS_any (s : Int) (B g n cp : Nat) (rs : List Ch.Row) (w : World) (hs0 : 0 < s) (hs1 : s ≤ 1099511627776) (hown : w.ownsRow B 64 3 (.slice (some ⟨g, 0, none⟩) n cp) n (rcells rs)) (hn : n ≤ 1048579) :
    Calls Try.prog 18 #[.slice (some ⟨g, 0, none⟩) n cp, .int .i64 s] w fun e w' => e = .returned (.int .i64 (s + 3 * n)) ∧ w'.ownsRow B 64 3 (.slice (some ⟨g, 0, none⟩) n cp) n (rcells (rmarks s n)) ∧ w.grownBy w' (some g) := by
  have HL := (owns_cells hown).rlen
  go_enter Try.func18, Try.ntmps18
  go_wp2
  go_loopw [1, 5] (fun q i wr => ∃ k : Nat, k ≤ n ∧ i = .int .i64 k ∧ q = .int .i64 (s + 3 * (k : Int)) ∧ wr.ownsRow B 64 3 (.slice (some ⟨g, 0, none⟩) n cp) n (rcells (rmarked s rs k)) ∧ w.grownBy wr (some g)) (fun _ i _ => n - (intOf i).toNat)
  case atStart => exact ⟨0, Nat.zero_le _, rfl, by simp, by simpa [rmarked, rmarks] using hown, ⟨rfl, rfl, rfl, Nat.le_refl _, fun _ _ _ => rfl⟩⟩
  case round =>
    obtain ⟨k, hk, rfl, rfl, own, gr⟩ := hrel
    by_cases hlt : k < n
    · have hf0 := own.frozenAt (k * 3)
      have hf1 := own.frozenAt (k * 3 + 1)
      have hf2 := own.frozenAt (k * 3 + 2)
      obtain ⟨u0, hd0⟩ := owns_some own (j := k * 3) (by omega)
      obtain ⟨u1, hd1⟩ := owns_some own (j := k * 3 + 1) (by omega)
      obtain ⟨u2, hd2⟩ := owns_some own (j := k * 3 + 2) (by omega)
      have HS := hid (rmarked_set s rs k (by have := HL.out; omega))
      go_wp2
      go_roundw
      case rel =>
        refine ⟨k + 1, by omega, by go_num, by go_num, ?_, ?_⟩
        · rw [← HS.out]; exact owns_stored3 own _ _ _ _
        · exact gr_trans gr (gr_trans (gr_trans (own.stored _ _).2 ((own.stored _ _).1.stored _ _).2) (((own.stored _ _).1.stored _ _).1.stored _ _).2)
      case measure => simp [intOf]; omega
    · obtain rfl : k = n := by omega
      go_wp2
      go_ret
      refine ⟨rfl, ?_, gr⟩
      have := HL.out
      simpa [rmarked, this] using own

theorem markRowS_nil (s : Int) (w : World) : Calls Try.prog 18 #[.slice none 0 0, .int .i64 s] w fun e w' => e = .returned (.int .i64 s) ∧ w' = w := by
  go_enter Try.func18, Try.ntmps18
  go_wp2
  go_loop [1, 5] (fun q i => i = .int .i64 0 ∧ q = .int .i64 s) (fun _ _ => 0)
  case atStart => exact ⟨rfl, rfl⟩
  case round =>
    obtain ⟨rfl, rfl⟩ := hrel
    go_wp2
    go_ret
    exact ⟨rfl, rfl⟩

theorem rmarks_cells {s : Int} {w : World} {a : Option Addr} {n : Nat} (h : CellsAt w a (n * 3) (rcells (rmarks s n))) {k : Nat} (hk : k < n) :
    ∃ b off, a = some ⟨b, off, none⟩ ∧ w.cell? ⟨b, off + k * 3, none⟩ = some (.int .i64 (s + 3 * (k : Int))) ∧ w.cell? ⟨b, off + k * 3 + 1, none⟩ = some (.int .i64 (s + 3 * (k : Int) + 1)) ∧ w.cell? ⟨b, off + k * 3 + 2, none⟩ = some (.bool ((s + 3 * (k : Int) + 1 + 1) % 3 == 0)) := by
  obtain ⟨b, off, ha, h0, h1, h2⟩ := h.row hk
  rw [rmarks_at s n k hk] at h0 h1 h2
  exact ⟨b, off, ha, h0, h1, h2⟩

set_option maxHeartbeats 400000 in
theorem heldRowS_any (s : Int) (a : Option Addr) (n cp : Nat) (w : World) (hs0 : 0 < s) (hs1 : s ≤ 1099511627776) (h : CellsAt w a (n * 3) (rcells (rmarks s n))) (hn : n ≤ 1048579) :
    Calls Try.prog 48 #[.slice a n cp, .int .i64 s] w fun e w' => e = .returned (.int .i64 (s + 3 * n)) ∧ w' = w := by
  go_enter Try.func48, Try.ntmps48
  go_wp2
  go_loop [1, 5] (fun q i => ∃ k : Nat, k ≤ n ∧ i = .int .i64 k ∧ q = .int .i64 (s + 3 * (k : Int))) (fun _ i => n - (intOf i).toNat)
  case atStart => exact ⟨0, Nat.zero_le _, rfl, by simp⟩
  case round =>
    obtain ⟨k, hk, rfl, rfl⟩ := hrel
    by_cases hlt : k < n
    · obtain ⟨b, off, rfl, hc0, hc1, hc2⟩ := rmarks_cells h hlt
      go_wp2
      go_round
      case rel => exact ⟨k + 1, by omega, by go_num, by go_num⟩
      case measure => simp [intOf]; omega
    · obtain rfl : k = n := by omega
      go_wp2
      go_ret
      exact ⟨rfl, rfl⟩

end Go.Proofs.Ytlpncikiaojmiaa
