
/- MapOfRows of the program and of the model. -/
import Derived.Test.YtlpncikiaojmiaaScanW
import Derived.Test.YtlpncikiaojmiaaGoodM
import Derived.Lib.SmallJoins
namespace Go.Proofs.Ytlpncikiaojmiaa
open Go.RowKit

/-! Plain -/
/-- Rows one by one: the first fault. -/
def Ch.eachF : List Ch.Row → Int
  | [] => 0
  | r :: rs => if r.fault != 0 then r.fault else Ch.eachF rs
def Ch.mapF (rs : List Ch.Row) : Int := if 240 < rs.length then 2 else if Ch.eachF rs != 0 then Ch.eachF rs else Ch.rise rs
def Ch.noGhost (rs : List Ch.Row) : List Ch.Row := rs.filter (fun r => !r.g)
def Ch.mapRR (rs : List Ch.Row) : Int × List Ch.Row := if Ch.mapF rs != 0 then (Ch.mapF rs, []) else (0, Ch.noGhost rs)
theorem Ch.row_drop {rs : List Ch.Row} {k : Nat} (h : k < rs.length) : rs.drop k = rs.getD k Ch.Row.zero :: rs.drop (k + 1) := by
  rw [List.drop_eq_getElem_cons h]; simp [List.getD, h]
theorem Ch.each_at {rs : List Ch.Row} {k : Nat} (h : k < rs.length) (hf : ((rs.getD k Ch.Row.zero).fault != 0) = true) : Ch.eachF (rs.drop k) = (rs.getD k Ch.Row.zero).fault := by
  rw [Ch.row_drop h, Ch.eachF, if_pos hf]
theorem Ch.each_on {rs : List Ch.Row} {k : Nat} (h : k < rs.length) (hf : ((rs.getD k Ch.Row.zero).fault != 0) = false) : Ch.eachF (rs.drop k) = Ch.eachF (rs.drop (k + 1)) := by
  rw [Ch.row_drop h, Ch.eachF, if_neg (by rw [hf]; exact Bool.false_ne_true)]
theorem Ch.each_end {rs : List Ch.Row} {k : Nat} (h : rs.length ≤ k) : Ch.eachF (rs.drop k) = 0 := by
  rw [List.drop_of_length_le h]; rfl
theorem Ch.each_ok {rs : List Ch.Row} (h : Ch.eachF rs = 0) : ∀ r ∈ rs, r.fault = 0 := by
  induction rs with
  | nil => intro b hb; cases hb
  | cons c bs ih =>
    rw [Ch.eachF] at h
    by_cases hc : (c.fault != 0) = true
    · rw [if_pos hc] at h; simp [h] at hc
    · rw [if_neg hc] at h
      intro b hb
      rcases List.mem_cons.1 hb with rfl | hb
      · simpa using hc
      · exact ih h b hb
theorem Ch.each_zero {rs : List Ch.Row} (h : ∀ r ∈ rs, r.fault = 0) : Ch.eachF rs = 0 := by
  induction rs with
  | nil => rfl
  | cons c bs ih =>
    rw [Ch.eachF, h c (List.mem_cons_self ..)]
    exact ih (fun r hr => h r (List.mem_cons_of_mem _ hr))
theorem Ch.each_getD {rs : List Ch.Row} (h : Ch.eachF rs = 0) (k : Nat) (hk : k < rs.length) : ((rs.getD k Ch.Row.zero).fault != 0) = false := by
  have : rs.getD k Ch.Row.zero ∈ rs := by simp [List.getD, hk]
  rw [Ch.each_ok h _ this]; rfl
theorem Ch.rise_two {rs : List Ch.Row} {p : Option Int} (h : ∀ r ∈ rs, r.fault = 0) : Ch.riseFrom p rs = 0 ∨ Ch.riseFrom p rs = 1 := by
  induction rs generalizing p with
  | nil => left; cases p <;> rfl
  | cons r rs ih =>
    rw [Ch.riseFrom_cons, h r (List.mem_cons_self ..)]
    by_cases hl : Ch.low p r.k = true
    · right; simp [hl]
    · simp only [hl]
      exact ih (fun x hx => h x (List.mem_cons_of_mem _ hx))
theorem Ch.mapF_many {rs : List Ch.Row} (h : 240 < rs.length) : Ch.mapF rs = 2 := by rw [Ch.mapF, if_pos h]
theorem Ch.mapF_each {rs : List Ch.Row} (h : ¬ 240 < rs.length) (hf : (Ch.eachF rs != 0) = true) : Ch.mapF rs = Ch.eachF rs := by rw [Ch.mapF, if_neg h, if_pos hf]
theorem Ch.mapF_rise {rs : List Ch.Row} (h : ¬ 240 < rs.length) (hf : Ch.eachF rs = 0) : Ch.mapF rs = Ch.rise rs := by rw [Ch.mapF, if_neg h, hf]; rfl
theorem Ch.mapRR_code {rs : List Ch.Row} {c : Int} (h : Ch.mapF rs = c) (hc : (c != 0) = true) : Ch.mapRR rs = (c, []) := by rw [Ch.mapRR, h, if_pos hc]
theorem Ch.mapRR_ok {rs : List Ch.Row} (h : Ch.mapF rs = 0) : Ch.mapRR rs = (0, Ch.noGhost rs) := by rw [Ch.mapRR, h]; rfl
theorem Ch.noGhost_yes {rs : List Ch.Row} {k : Nat} (h : k < rs.length) (hin : (rs.getD k Row.zero).g = false) : Ch.noGhost (rs.take (k + 1)) = Ch.noGhost (rs.take k) ++ [rs.getD k Row.zero] := by
  rw [take_snoc rs Row.zero k h]; generalize rs.getD k Row.zero = r at *; unfold Ch.noGhost; rw [List.filter_append]; simp [hin]
theorem Ch.noGhost_no {rs : List Ch.Row} {k : Nat} (h : k < rs.length) (hin : (rs.getD k Row.zero).g = true) : Ch.noGhost (rs.take (k + 1)) = Ch.noGhost (rs.take k) := by
  rw [take_snoc rs Row.zero k h]; generalize rs.getD k Row.zero = r at *; unfold Ch.noGhost; rw [List.filter_append]; simp [hin]
theorem Ch.noGhost_len (rs : List Ch.Row) : (Ch.noGhost rs).length ≤ rs.length := List.length_filter_le _ _
theorem Ch.mapF_len {rs : List Ch.Row} (h : Ch.mapF rs = 0) : rs.length ≤ 240 := by
  unfold Ch.mapF at h
  by_cases hb : 240 < rs.length
  · rw [if_pos hb] at h; omega
  · omega

/-! Blocks -/
theorem rowTwo {W : World} {g : Nat} {t : TypeId} {u0 u1 : Value} (h : W.heap[g]? = some (.cells #[u0, u1] t (0, 0))) :
    W.cell? ⟨g, 0, none⟩ = some u0 ∧ W.cell? ⟨g, 1, none⟩ = some u1 ∧ W.frozen? ⟨g, 0, none⟩ = false ∧ W.frozen? ⟨g, 1, none⟩ = false :=
  ⟨cell_of_row _ _ _ _ _ _ h, cell_of_row _ _ _ _ _ _ h, by simp [World.frozen?, h], by simp [World.frozen?, h]⟩
theorem own_apart {w : World} {base : Nat} {e : TypeId} {size : Nat} {v : Value} {n : Nat} {xs : List Value} (h : w.ownsRow base e size v n xs) {b : Nat} (hb : b < base) : v.ownBlock ≠ some b := fun e => by
  have := (owns_lt h b e).1
  omega
theorem block_below {w w' : World} (hb : Below w.heap.size w w') {b : Nat} {o : Obj} (h : w.heap[b]? = some o) : w'.heap[b]? = some o :=
  (hb.block b (Array.getElem?_eq_some_iff.1 h).1).trans h
theorem block_grown {w w' : World} {row : Option Nat} {b : Nat} {o : Obj} (hg : w.grownBy w' row) (h : w.heap[b]? = some o) (hne : row ≠ some b) : w'.heap[b]? = some o :=
  (hg.block b (Array.getElem?_eq_some_iff.1 h).1 (fun e => hne e.symm)).trans h

/-! The program -/
set_option maxHeartbeats 2000000 in
theorem mapFault_any (a : Option Addr) (n cap : Nat) (rs : List Ch.Row) (w : World) (h : CellsAt w a (n * 3) (rcells rs)) (hn : n ≤ 1048576) :
    Calls Try.prog 101 #[.slice a n cap] w fun e w' => e = .returned (.int .i64 (Ch.mapF rs)) ∧ Below w.heap.size w w' := by
  have HL := h.rlen
  by_cases hbig : 240 < n
  · have HF : Hid (Ch.mapF rs = 2) := Ch.mapF_many (by have := HL.out; omega)
    go_enter Try.func101, Try.ntmps101
    go_wp2
    go_ret
    exact ⟨ret_int HF.out.symm, Below.refl _ _⟩
  have hn4 : n ≤ 240 := by omega
  have HA : Hid ((Ch.eachF rs != 0) = true → Ch.mapF rs = Ch.eachF rs) := fun hf => Ch.mapF_each (by have := HL.out; omega) hf
  have HB : Hid (Ch.eachF rs = 0 → Ch.mapF rs = Ch.rise rs) := fun hf => Ch.mapF_rise (by have := HL.out; omega) hf
  clear hbig
  go_enter Try.func101, Try.ntmps101
  go_wp2
  go_loopw [13] (fun i wr => ∃ k : Nat, k ≤ n ∧ i = .int .i64 k ∧ Hid (Ch.eachF rs = Ch.eachF (rs.drop k)) ∧ Below w.heap.size w wr) (fun i _ => n - (intOf i).toNat)
  case atStart => exact ⟨0, Nat.zero_le _, rfl, rfl, Below.refl _ _⟩
  case round =>
    obtain ⟨k, hk, rfl, HH, hB⟩ := hrel
    by_cases hlt : k < n
    · have hkl : k < rs.length := by have := HL.out; omega
      have HS := hid (fun he => HH.out.trans (Ch.each_at hkl he))
      have HN := hid (fun he => HH.out.trans (Ch.each_on hkl he))
      obtain ⟨b, off, rfl, q0, q1, q2⟩ := (h.below hB).row hlt
      have hbl := lt_of_cell q0
      generalize rs.getD k Ch.Row.zero = r at *
      obtain ⟨rk, rv, rg⟩ := r
      simp only [Ch.Row.fault] at q0 q1 q2 HS HN
      have IF := fun W => implRow_any rk rv rg W
      cases hf : (Ch.rowFault rk rv rg != 0)
      · replace HN := hid (HN.out hf)
        clear HS
        generalize Ch.rowFault rk rv rg = c at *
        go_wp2_with fail
        refine (IF _).mono ?_
        rintro e w1 ⟨rfl, b1⟩
        have bE := hB.trans ((below_box b1).mono hB.size)
        go_wp2
        go_roundw
        case rel => exact ⟨k + 1, by omega, by go_num, HN.out, bE⟩
        case measure => simp [intOf]; omega
      · replace HS := hid (HS.out hf)
        have HZ := hid (HA.out (by rw [HS.out]; exact hf))
        replace HZ := hid (HZ.out.trans HS.out)
        clear HN HS
        generalize Ch.rowFault rk rv rg = c at *
        go_wp2_with fail
        refine (IF _).mono ?_
        rintro e w1 ⟨rfl, b1⟩
        have bE := hB.trans ((below_box b1).mono hB.size)
        go_wp2
        go_ret
        exact ⟨ret_int HZ.out.symm, bE⟩
    · obtain rfl : k = n := by omega
      have HZ := hid (HH.out.trans (Ch.each_end (by have := HL.out; omega)))
      have HM := hid (HB.out HZ.out)
      clear HA HB HH
      go_wp2
      go_loopw [25] (fun i wr => ∃ j : Nat, j ≤ k ∧ i = .int .i64 j ∧ Hid (Ch.mapF rs = Ch.riseAt rs j) ∧ Below w.heap.size w wr) (fun i _ => k - (intOf i).toNat)
      case atStart => exact ⟨0, Nat.zero_le _, rfl, HM.out, hB⟩
      case round =>
        clear HM hB
        obtain ⟨j, hj, rfl, HR, hB⟩ := hrel
        by_cases hlt : j < k
        · have hjl : j < rs.length := by have := HL.out; omega
          have hff := hid (Ch.each_getD HZ.out j hjl)
          obtain ⟨b, off, rfl, q0, q1, q2⟩ := (h.below hB).row hlt
          have hbl := lt_of_cell q0
          have bE := hB.alloc hB.size (.cells #[.int .i64 (rs.getD j Ch.Row.zero).k, .int .i64 (rs.getD j Ch.Row.zero).v, .bool (rs.getD j Ch.Row.zero).g] 64)
          cases j with
          | zero =>
            have HN := hid (HR.out.trans (Ch.riseAt_first rs hjl hff.out))
            clear hff
            generalize rs.getD 0 Ch.Row.zero = r at *
            obtain ⟨rk, rv, rg⟩ := r
            simp only [Nat.zero_mul, Nat.add_zero] at q0 q1 q2 bE
            have hd : decide ((0 : Int) < ((0 : Nat) : Int)) = false := by simp
            go_wp2
            go_quiet (fail)
            go_wp2
            go_roundw
            case rel => exact ⟨1, by omega, by go_num, HN.out, below_drewN bE _⟩
            case measure => simp [intOf]; omega
          | succ i =>
            have HN : Hid (¬ (rs.getD (i + 1) Ch.Row.zero).k ≤ (rs.getD i Ch.Row.zero).k → Ch.mapF rs = Ch.riseAt rs (i + 1 + 1)) := fun hl => HR.out.trans (Ch.riseAt_on rs i hjl hff.out hl)
            have HM : Hid ((rs.getD (i + 1) Ch.Row.zero).k ≤ (rs.getD i Ch.Row.zero).k → Ch.mapF rs = 1) := fun hl => HR.out.trans (Ch.riseAt_low rs i hjl hff.out hl)
            obtain ⟨b', off', hbo, hp0, _, _⟩ := (h.below hB).row (show i < k by omega)
            simp only [Option.some.injEq, Addr.mk.injEq, and_true] at hbo
            obtain ⟨rfl, rfl⟩ := hbo
            clear hff HR
            generalize rs.getD (i + 1) Ch.Row.zero = r at *
            generalize (rs.getD i Ch.Row.zero).k = pk at *
            obtain ⟨rk, rv, rg⟩ := r
            simp only at q0 q1 q2 bE HN HM
            have hd : (0 : Int) < ((i + 1 : Nat) : Int) := by omega
            by_cases hle : rk ≤ pk
            · replace HM := hid (HM.out hle)
              clear HN
              go_wp2
              go_quiet (fail)
              go_wp2
              go_ret
              exact ⟨ret_int HM.out.symm, below_drewN bE _⟩
            · replace HN := hid (HN.out hle)
              clear HM
              go_wp2
              go_quiet (fail)
              go_wp2
              go_roundw
              case rel => exact ⟨i + 1 + 1, by omega, by go_num, HN.out, below_drewN bE _⟩
              case measure => simp [intOf]; omega
        · obtain rfl : j = k := by omega
          have HE := hid (HR.out.trans (Ch.riseAt_end _ _ (by have := HL.out; omega)))
          go_wp2
          go_ret
          exact ⟨ret_int HE.out.symm, hB⟩

set_option linter.unusedSimpArgs false in
set_option maxRecDepth 20000 in
set_option maxHeartbeats 4000000 in
theorem implMapOf_any (a : Option Addr) (n cap : Nat) (rs : List Ch.Row) (w : World) (h : CellsAt w a (n * 3) (rcells rs)) (hn : n ≤ 1048576) :
    Calls Try.prog 88 #[.slice a n cap] w fun e w' => ∃ a' m c', e = .returned (.agg #[.int .i64 (Ch.mapRR rs).1, .slice a' m c']) ∧ m ≤ 1048576 ∧ w'.ownsRow w.heap.size 64 3 (.slice a' m c') m (rcells (Ch.mapRR rs).2) ∧ Below w.heap.size w w' := by
  have IA := fun W hW => mapFault_any a n cap rs W hW hn
  have kA : ∀ o, Below w.heap.size w (w.alloc o) := fun o => (Below.refl _ _).alloc (Nat.le_refl _) o
  have HL := h.rlen
  obtain ⟨c, HC⟩ : ∃ c, Hid (Ch.mapF rs = c) := ⟨_, rfl⟩
  rw [HC.out] at IA
  by_cases h0 : c = 0
  · subst h0
    rw [Ch.mapRR_ok HC.out]
    have hn4 : n ≤ 240 := by have := Ch.mapF_len HC.out; have := HL.out; omega
    clear HC
    go_enter Try.func88, Try.ntmps88
    go_wp2_with fail
    refine (IA _ (h.below (kA _))).mono ?_
    rintro e w1 ⟨rfl, b1⟩
    have hR := block_below b1 (heap_alloc_new w _)
    have b1 := below_box b1
    have lz := (Array.getElem?_eq_some_iff.1 hR).1
    obtain ⟨x0, x1, f0, f1⟩ := rowTwo hR
    clear IA
    go_wp2
    go_loopw [15] (fun i wr => ∃ (k m : Nat) (a' : Option Addr) (c' : Nat), k ≤ n ∧ m ≤ k ∧ i = .int .i64 k ∧ wr.heap[w.heap.size]? = some (.cells #[.int .i64 0, .slice none 0 0] 88 (0, 0)) ∧ wr.heap[w1.heap.size]? = some (.cells #[.int .i64 0, .slice a' m c'] 88 (0, 0)) ∧ wr.ownsRow (w1.heap.size + 1) 64 3 (.slice a' m c') m (rcells (Ch.noGhost (rs.take k))) ∧ w1.heap.size < wr.heap.size ∧ Below w.heap.size w wr) (fun i _ => n - (intOf i).toNat)
    case atStart => exact ⟨0, 0, none, 0, Nat.zero_le _, Nat.le_refl _, rfl, (Below.heap_alloc w1 _ _ lz).trans hR, heap_alloc_new w1 _, World.ownsRow_nil _ _ _ _, by simp, b1.alloc b1.size _⟩
    case round =>
      clear hR x0 x1 f0 f1
      obtain ⟨k, m, a', c', hk, hmk, rfl, hR, hX, own, hsz, hB⟩ := hrel
      obtain ⟨x0, x1, f0, f1⟩ := rowTwo hR
      obtain ⟨y0, y1, g0, g1⟩ := rowTwo hX
      have lr := (Array.getElem?_eq_some_iff.1 hR).1
      by_cases hlt : k < n
      · have hkl : k < rs.length := by have := HL.out; omega
        have HY := hid (fun he => Ch.noGhost_yes hkl he)
        have HN := hid (fun he => Ch.noGhost_no hkl he)
        obtain ⟨b, off, rfl, q0, q1, q2⟩ := (h.below hB).row hlt
        have hbl := lt_of_cell q0
        generalize rs.getD k Ch.Row.zero = r at *
        obtain ⟨rk, rv, rg⟩ := r
        simp only at q0 q1 q2 HY HN
        generalize Ch.noGhost (rs.take k) = zs at *
        have hsum : m + 1 ≤ 2097152 := by omega
        cases rg
        · replace HY := hid (HY.out rfl)
          clear HN
          have kQ : Below wr.heap.size wr ((wr.alloc (.cells #[.int .i64 rk, .int .i64 rv, .bool false] 64)).alloc (.cells #[.int .i64 rk, .int .i64 rv, .bool false] 64)) := ((Below.refl _ _).alloc (Nat.le_refl _) _).alloc (by simp) _
          have own3 := owns_below own kQ
          have hX3 := block_below kQ hX
          have hR3 := block_below kQ hR
          have hC3 := new_row (w := wr.alloc (.cells #[.int .i64 rk, .int .i64 rv, .bool false] 64)) (r := ⟨rk, rv, false⟩) (t := 64) (H := wr.heap.size + 1) (by simp)
          have hb3 : w1.heap.size + 1 ≤ ((wr.alloc (.cells #[.int .i64 rk, .int .i64 rv, .bool false] 64)).alloc (.cells #[.int .i64 rk, .int .i64 rv, .bool false] 64)).heap.size := by simp; omega
          go_wp2_with (at_builtin; go_must (refine wpList_appG (.tmp 23) (.tmp 25) (w1.heap.size + 1) (.slice a' m c') m zs 1 [⟨rk, rv, false⟩] hsum (by omega) ?_ ?_ ?_ ?_ own3 hb3 ?_; exact rfl; exact rfl; exact rfl; exact ⟨_, _, rfl, hC3⟩; intro a5 c5 w5 own5 gr5 at5; have hX5 := block_grown gr5 hX3 (own_apart own3 (by omega)); have hR5 := block_grown gr5 hR3 (own_apart own3 (by omega)); obtain ⟨v0, v1, e0, e1⟩ := rowTwo hX5; have lv := lt_of_cell v0))
          go_roundw
          case rel =>
            rw [← HY.out] at own5
            have b3 := (hB.alloc hB.size (.cells #[.int .i64 rk, .int .i64 rv, .bool false] 64)).alloc (by simp; exact Nat.le_trans hB.size (by omega)) (.cells #[.int .i64 rk, .int .i64 rv, .bool false] 64)
            have b5 := b3.grown gr5 b3.size (fun g hg => by have := (owns_lt own3 g hg).1; omega)
            refine ⟨k + 1, m + 1, a5, c5, by omega, by omega, by go_num, ?_, ?_, ?_, ?_, b5.setCell (p := ⟨w1.heap.size, 1, none⟩) (by show w.heap.size ≤ w1.heap.size; omega) _⟩
            · exact (Below.heap_setCell _ _ _ _ (by show w.heap.size ≠ w1.heap.size; omega)).trans hR5
            · have := Joins.block_setCell (i := 1) hX5 (.slice a5 (m + 1) c5)
              simpa using this
            · exact ownsRow_setCell_below own5 (by show w1.heap.size < w1.heap.size + 1; omega) _
            · have := gr5.size; simp at this ⊢; omega
          case measure => simp [intOf]; omega
        · replace HN := hid (HN.out rfl)
          clear HY
          have kE : Below wr.heap.size wr (wr.alloc (.cells #[.int .i64 rk, .int .i64 rv, .bool true] 64)) := (Below.refl _ _).alloc (Nat.le_refl _) _
          go_wp2
          go_roundw
          case rel => exact ⟨k + 1, m, a', c', by omega, by omega, by go_num, block_below kE hR, block_below kE hX, by rw [HN.out]; exact owns_below own kE, Nat.lt_of_lt_of_le hsz kE.size, hB.trans (kE.mono hB.size)⟩
          case measure => simp [intOf]; omega
      · obtain rfl : k = n := by omega
        have HWF : Hid (rs.take k = rs) := by have := HL.out; show _ = _; rw [this]; exact List.take_length
        rw [HWF.out] at own
        go_wp2
        refine bodyPost_ret (v := .agg #[.int .i64 0, .slice a' m c']) (by simp [results, Try.results88, go_sem, x0, x1]) rfl ⟨a', m, c', rfl, by omega, ?_, ?_⟩
        · refine owns_base (base := w1.heap.size + 1) (ownsRow_setCell_below (ownsRow_setCell_below own ?_ _) ?_ _) (by omega)
          · show w.heap.size < w1.heap.size + 1; omega
          · show w.heap.size < w1.heap.size + 1; omega
        · exact (hB.setCell (p := ⟨w.heap.size, 0, none⟩) (Nat.le_refl _) _).setCell (p := ⟨w.heap.size, 1, none⟩) (Nat.le_refl _) _
  · rw [Ch.mapRR_code HC.out (by simpa using h0)]
    clear HC
    go_enter Try.func88, Try.ntmps88
    go_wp2_with fail
    refine (IA _ (h.below (kA _))).mono ?_
    rintro e w1 ⟨rfl, b1⟩
    have hR := block_below b1 (heap_alloc_new w _)
    have b1 := below_box b1
    have lz := (Array.getElem?_eq_some_iff.1 hR).1
    obtain ⟨x0, x1, f0, f1⟩ := rowTwo hR
    go_wp2
    exact bodyPost_ret (v := .agg #[.int .i64 c, .slice none 0 0]) (by simp [results, Try.results88, go_sem, x0, x1]) rfl ⟨none, 0, 0, rfl, by omega, World.ownsRow_nil _ _ _ _, (b1.setCell (p := ⟨w.heap.size, 0, none⟩) (Nat.le_refl _) _).setCell (p := ⟨w.heap.size, 1, none⟩) (Nat.le_refl _) _⟩

/-! The model -/
set_option maxHeartbeats 1600000 in
theorem l8Map_any (a : Option Addr) (n cap : Nat) (rs : List Ch.Row) (w : World) (h : CellsAt w a (n * 3) (rcells rs)) (hn : n ≤ 240) :
    Calls Try.prog 86 #[.slice a n cap] w fun e w' => ∃ a' m c', e = .returned (.slice a' m c') ∧ m ≤ 240 ∧ w'.ownsRow w.heap.size 64 3 (.slice a' m c') m (rcells (Ch.noGhost rs)) ∧ Below w.heap.size w w' := by
  have HL := h.rlen
  have o0 := empty_rows w w.heap.size (Nat.le_refl _)
  have b0 : Below w.heap.size w (w.alloc (.cells #[] 64)) := (Below.refl _ _).alloc (Nat.le_refl _) _
  go_enter Try.func86, Try.ntmps86
  go_wp2
  go_loopw [3, 4] (fun q i wr => ∃ (k m : Nat) (a' : Option Addr) (c' : Nat), k ≤ n ∧ m ≤ k ∧ i = .int .i64 k ∧ q = .slice a' m c' ∧ wr.ownsRow w.heap.size 64 3 (.slice a' m c') m (rcells (Ch.noGhost (rs.take k))) ∧ Below w.heap.size w wr) (fun _ i _ => n - (intOf i).toNat)
  case atStart => exact ⟨0, 0, _, _, Nat.zero_le _, Nat.le_refl _, rfl, rfl, by simpa [Ch.noGhost] using o0, b0⟩
  case round =>
    obtain ⟨k, m, a', c', hk, hmk, rfl, rfl, own, hB⟩ := hrel
    by_cases hlt : k < n
    · have hkl : k < rs.length := by have := HL.out; omega
      have HY := hid (fun he => Ch.noGhost_yes hkl he)
      have HN := hid (fun he => Ch.noGhost_no hkl he)
      obtain ⟨b, off, rfl, q0, q1, q2⟩ := (h.below hB).row hlt
      have hbl := lt_of_cell q0
      generalize rs.getD k Ch.Row.zero = r at *
      obtain ⟨rk, rv, rg⟩ := r
      simp only at q0 q1 q2 HY HN
      generalize Ch.noGhost (rs.take k) = zs at *
      have hsum : m + 1 ≤ 2097152 := by omega
      cases rg
      · replace HY := hid (HY.out rfl)
        clear HN
        have bA : ∀ o, Below wr.heap.size wr (wr.alloc o) := fun o => (Below.refl _ _).alloc (Nat.le_refl _) _
        have hwB := hB.size
        go_wp2_with (at_builtin; go_must (refine wpList_appG (.tmp 18) (.tmp 23) w.heap.size (.slice a' m c') m zs 1 [⟨rk, rv, false⟩] hsum (by omega) ?_ ?_ ?_ ?_ ?_ ?_ ?_; exact rfl; exact rfl; exact rfl; exact ⟨_, _, rfl, new_row (r := ⟨rk, rv, false⟩) rfl⟩; exact owns_below own (bA _); (focus (simp; omega)); intro a3 c3 w3 own3 gr3 at3))
        go_roundw
        case rel =>
          refine ⟨k + 1, m + 1, a3, c3, by omega, by omega, by go_num, rfl, by rw [HY.out]; exact own3, ?_⟩
          exact (hB.alloc hB.size _).grown gr3 (by simp; omega) (fun g hg => (owns_lt own g hg).1)
        case measure => simp [intOf]; omega
      · replace HN := hid (HN.out rfl)
        clear HY
        go_wp2
        go_roundw
        case rel => exact ⟨k + 1, m, a', c', by omega, by omega, by go_num, rfl, by rw [HN.out]; exact own, hB⟩
        case measure => simp [intOf]; omega
    · obtain rfl : k = n := by omega
      have HWF : Hid (rs.take k = rs) := by have := HL.out; show _ = _; rw [this]; exact List.take_length
      rw [HWF.out] at own
      go_wp2
      go_ret
      exact ⟨a', m, c', rfl, by omega, own, hB⟩

set_option linter.unusedSimpArgs false in
set_option maxHeartbeats 2000000 in
theorem specMapOf_any (a : Option Addr) (n cap : Nat) (rs : List Ch.Row) (w : World) (h : CellsAt w a (n * 3) (rcells rs)) (hn : n ≤ 1048576) :
    Calls Try.prog 66 #[.slice a n cap] w fun e w' => ∃ a' m c', e = .returned (.agg #[.int .i64 (Ch.mapRR rs).1, .slice a' m c']) ∧ m ≤ 1048576 ∧ w'.ownsRow w.heap.size 64 3 (.slice a' m c') m (rcells (Ch.mapRR rs).2) ∧ Below w.heap.size w w' := by
  have HL := h.rlen
  have kA : ∀ o, Below w.heap.size w (w.alloc o) := fun o => (Below.refl _ _).alloc (Nat.le_refl _) o
  by_cases hbig : 240 < n
  · rw [Ch.mapRR_code (Ch.mapF_many (by have := HL.out; omega)) rfl]
    go_enter Try.func66, Try.ntmps66
    go_wp2
    exact bodyPost_ret (v := .agg #[.int .i64 2, .slice none 0 0]) (by simp [results, Try.results66, go_sem]) rfl ⟨none, 0, 0, rfl, by omega, World.ownsRow_nil _ _ _ _, kA _⟩
  have hn4 : n ≤ 240 := by omega
  have RI := fun W hW => rise_any a n cap rs W hW (by omega)
  have MI := fun W hW => l8Map_any a n cap rs W hW hn4
  have HA : Hid ((Ch.eachF rs != 0) = true → Ch.mapRR rs = (Ch.eachF rs, [])) := fun hf => Ch.mapRR_code (Ch.mapF_each (by have := HL.out; omega) hf) hf
  have HB : Hid (Ch.eachF rs = 0 → (Ch.rise rs != 0) = true → Ch.mapRR rs = (1, [])) := fun hf hr => by
    refine Ch.mapRR_code ((Ch.mapF_rise (by have := HL.out; omega) hf).trans ?_) rfl
    rcases Ch.rise_two (p := none) (Ch.each_ok hf) with h0 | h0
    · have : Ch.rise rs = 0 := h0
      rw [this] at hr; cases hr
    · exact h0
  have HC : Hid (Ch.eachF rs = 0 → (Ch.rise rs != 0) = false → Ch.mapRR rs = (0, Ch.noGhost rs)) := fun hf hr => by
    refine Ch.mapRR_ok ((Ch.mapF_rise (by have := HL.out; omega) hf).trans (by simpa using hr))
  clear hbig
  generalize Ch.mapRR rs = X at *
  go_enter Try.func66, Try.ntmps66
  go_wp2
  go_loopw [3] (fun i wr => ∃ k : Nat, k ≤ n ∧ i = .int .i64 k ∧ Hid (Ch.eachF rs = Ch.eachF (rs.drop k)) ∧ wr.heap[w.heap.size]? = some (.cells #[.int .i64 0, .slice none 0 0] 88 (0, 0)) ∧ Below w.heap.size w wr) (fun i _ => n - (intOf i).toNat)
  case atStart => exact ⟨0, Nat.zero_le _, rfl, rfl, heap_alloc_new w _, kA _⟩
  case round =>
    obtain ⟨k, hk, rfl, HH, hR, hB⟩ := hrel
    obtain ⟨x0, x1, f0, f1⟩ := rowTwo hR
    have hz := lt_of_cell x0
    by_cases hlt : k < n
    · have hkl : k < rs.length := by have := HL.out; omega
      have HS := hid (fun he => HH.out.trans (Ch.each_at hkl he))
      have HN := hid (fun he => HH.out.trans (Ch.each_on hkl he))
      obtain ⟨b, off, rfl, q0, q1, q2⟩ := (h.below hB).row hlt
      have hbl := lt_of_cell q0
      generalize rs.getD k Ch.Row.zero = r at *
      obtain ⟨rk, rv, rg⟩ := r
      simp only [Ch.Row.fault] at q0 q1 q2 HS HN
      have IF := fun W => specRow_any rk rv rg W
      cases hf : (Ch.rowFault rk rv rg != 0)
      · replace HN := hid (HN.out hf)
        clear HS HA HB HC
        generalize Ch.rowFault rk rv rg = c at *
        go_wp2_with fail
        refine (IF _).mono ?_
        rintro e w1 ⟨rfl, b1⟩
        have hR1 := block_below b1 hR
        have bE := hB.trans (b1.mono hB.size)
        go_wp2
        go_roundw
        case rel => exact ⟨k + 1, by omega, by go_num, HN.out, hR1, bE⟩
        case measure => simp [intOf]; omega
      · replace HS := hid (HS.out hf)
        have HZ := hid (HA.out (by rw [HS.out]; exact hf))
        rw [HS.out] at HZ
        clear HN HS HA HB HC
        generalize Ch.rowFault rk rv rg = c at *
        go_wp2_with fail
        refine (IF _).mono ?_
        rintro e w1 ⟨rfl, b1⟩
        have hR1 := block_below b1 hR
        obtain ⟨x0, x1, f0, f1⟩ := rowTwo hR1
        have bE := hB.trans (b1.mono hB.size)
        go_wp2
        exact bodyPost_ret (v := .agg #[.int .i64 c, .slice none 0 0]) (by simp [results, Try.results66, go_sem, x0, x1]) rfl ⟨none, 0, 0, by rw [HZ.out], by omega, by rw [HZ.out]; exact World.ownsRow_nil _ _ _ _, (bE.setCell (p := ⟨w.heap.size, 0, none⟩) (Nat.le_refl _) _).setCell (p := ⟨w.heap.size, 1, none⟩) (Nat.le_refl _) _⟩
    · obtain rfl : k = n := by omega
      have HZ := hid (HH.out.trans (Ch.each_end (by have := HL.out; omega)))
      cases hr : (Ch.rise rs != 0)
      · have HX := hid (HC.out HZ.out hr)
        clear HA HB HC HH
        generalize Ch.rise rs = c at *
        go_wp2_with fail
        refine (RI _ (h.below hB)).mono ?_
        rintro e w1 ⟨rfl, b1⟩
        have hR1 := block_below b1 hR
        have bE := hB.trans (b1.mono hB.size)
        go_wp2_with fail
        refine (MI _ (h.below bE)).mono ?_
        rintro e w2 ⟨a2, m2, c2, rfl, hm2, own2, b2⟩
        have hR2 := block_below b2 hR1
        obtain ⟨x0, x1, f0, f1⟩ := rowTwo hR2
        have lz := lt_of_cell (rowTwo hR1).1
        have bF := bE.trans (b2.mono bE.size)
        go_wp2
        refine bodyPost_ret (v := .agg #[.int .i64 0, .slice a2 m2 c2]) (by simp [results, Try.results66, go_sem, x0, x1]) rfl ⟨a2, m2, c2, by rw [HX.out], by omega, ?_, (bF.setCell (p := ⟨w.heap.size, 0, none⟩) (Nat.le_refl _) _).setCell (p := ⟨w.heap.size, 1, none⟩) (Nat.le_refl _) _⟩
        rw [HX.out]
        exact owns_base (ownsRow_setCell_below (ownsRow_setCell_below own2 lz _) lz _) (Nat.le_of_lt lz)
      · have HX := hid (HB.out HZ.out hr)
        clear HA HB HC HH
        generalize Ch.rise rs = c at *
        go_wp2_with fail
        refine (RI _ (h.below hB)).mono ?_
        rintro e w1 ⟨rfl, b1⟩
        have hR1 := block_below b1 hR
        obtain ⟨x0, x1, f0, f1⟩ := rowTwo hR1
        have bE := hB.trans (b1.mono hB.size)
        go_wp2
        exact bodyPost_ret (v := .agg #[.int .i64 1, .slice none 0 0]) (by simp [results, Try.results66, go_sem, x0, x1]) rfl ⟨none, 0, 0, by rw [HX.out], by omega, by rw [HX.out]; exact World.ownsRow_nil _ _ _ _, (bE.setCell (p := ⟨w.heap.size, 0, none⟩) (Nat.le_refl _) _).setCell (p := ⟨w.heap.size, 1, none⟩) (Nat.le_refl _) _⟩
end Go.Proofs.Ytlpncikiaojmiaa
