/- Several texts in one: RpB, RpS, RpT, ItA, CpI, WrI, RpI, RpJ. -/
import Derived.Test.YtlpncikiaojmiaaMz3
import Derived.Test.YtlpncikiaojmiaaMz0
import Derived.Test.YtlpncikiaojmiaaMz4
import Derived.Test.YtlpncikiaojmiaaIntS
import Derived.Test.YtlpncikiaojmiaaRpA
import Derived.Test.YtlpncikiaojmiaaMz1
import Derived.Test.YtlpncikiaojmiaaHTk
import Derived.RangeFuncNested
import Derived.RangeFuncBound
import Derived.RangeFuncCalls
import Derived.RangeFuncLeaves
import Derived.RangeFuncBox
import Derived.Shelf.Abstract
import Derived.WalkKit
import Derived.OwnWalkIn
import Derived.TacticsInMore
import Derived.LoopNIn
import Derived.LoopIn
import Derived.Test.YtlpncikiaojmiaaWrM
import Derived.Test.YtlpncikiaojmiaaProg
import Derived.Test.YtlpncikiaojmiaaMz2
import Derived.Shelf.SlicesG.CompactI
import Derived.Shelf.SlGeneric
import Derived.Shelf.Lay
import Derived.Ground.SlgnProg
import Derived.Lib.OwnBridge
import Derived.Shelf.RegionOpen
import Derived.Deep.RegionHeld3

/- Numbers compared; operations done to the places of keys; what is wrong with what is replayed. -/
namespace Go.Proofs.Ytlpncikiaojmiaa
open Go.RowKit

theorem ret_boolR {a b : Bool} (h : a = b) : Ending.returned (.bool a) = .returned (.bool b) := by rw [h]
theorem Ch.eq_len {a b : List Int} (h : a.length ≠ b.length) : (a == b) = false := by
  rw [beq_eq_false_iff_ne]
  intro e
  exact h (by rw [e])
theorem Ch.eq_same {a b : List Int} (hl : a.length = b.length) (h : ∀ k, k < a.length → a.getD k 0 = b.getD k 0) : (a == b) = true := by
  rw [beq_iff_eq]
  apply List.ext_getElem hl
  intro i h1 h2
  have := h i h1
  simpa [List.getD, h1, h2] using this
theorem Ch.eq_at {a b : List Int} {k : Nat} (h : (a.getD k 0 != b.getD k 0) = true) : (a == b) = false := by
  rw [beq_eq_false_iff_ne]
  intro e
  subst e
  simp at h

set_option maxHeartbeats 1000000 in
theorem equalI_any (a a' : Option Addr) (n cap n' cap' : Nat) (rs qs : List Int) (w : World) (h : CellsAt w a (n * 1) (icells rs)) (h' : CellsAt w a' (n' * 1) (icells qs)) (hn : n ≤ 9223372036854775807) (hn' : n' ≤ 9223372036854775807) :
    Calls Try.prog 42 #[.slice a n cap, .slice a' n' cap'] w fun e w' => e = .returned (.bool (rs == qs)) ∧ Below w.heap.size w w' := by
  have HL := h.ilen
  have HL' := h'.ilen
  obtain ⟨Z, HZ⟩ : ∃ Z, Hid ((rs == qs) = Z) := ⟨_, rfl⟩
  rw [HZ.out]
  by_cases hne : n = n'
  · subst hne
    have hnn : ((n : Int) != n) = false := by simp
    go_enter Try.func42, Try.ntmps42
    go_wp2
    go_loopw [13] (fun i wr => ∃ k : Nat, k ≤ n ∧ i = .int .i64 k ∧ Hid (∀ j, j < k → rs.getD j 0 = qs.getD j 0) ∧ Below w.heap.size w wr) (fun i _ => n - (intOf i).toNat)
    case atStart => exact ⟨0, Nat.zero_le _, rfl, fun j hj => absurd hj (by omega), Below.refl _ _⟩
    case round =>
      obtain ⟨k, hk, rfl, HE, hB⟩ := hrel
      by_cases hlt : k < n
      · obtain ⟨b, off, rfl, hc0⟩ := (h.below hB).int hlt
        obtain ⟨b', off', rfl, hd0⟩ := (h'.below hB).int hlt
        have HN : Hid ((rs.getD k 0 != qs.getD k 0) = true → false = Z) := fun hx => (Ch.eq_at hx).symm.trans HZ.out
        have HY : Hid ((rs.getD k 0 != qs.getD k 0) = false → ∀ j, j < k + 1 → rs.getD j 0 = qs.getD j 0) := fun hx j hj => by
          rcases Nat.lt_or_ge j k with h1 | h1
          · exact HE.out j h1
          · obtain rfl : j = k := by omega
            simpa using hx
        generalize rs.getD k 0 = r at *
        generalize qs.getD k 0 = q at *
        have hbl := lt_of_cell hc0
        have hbl' := lt_of_cell hd0
        cases hrq : (r != q) with
        | true =>
          have HQ := hid (HN.out hrq)
          clear HN HY
          go_wp2
          go_quiet (fail)
          go_wp2
          go_ret
          exact ⟨ret_boolR HQ.out, hB.trans ⟨rfl, rfl, rfl, Nat.le_refl _, fun _ _ => rfl⟩⟩
        | false =>
          have HQ := hid (HY.out hrq)
          clear HN HY
          go_wp2
          go_quiet (fail)
          go_wp2
          go_roundw
          case rel => exact ⟨k + 1, by omega, by go_num, HQ, hB.trans ⟨rfl, rfl, rfl, Nat.le_refl _, fun _ _ => rfl⟩⟩
          case measure => simp [intOf]; omega
      · obtain rfl : k = n := by omega
        have HQ : Hid (true = Z) := (Ch.eq_same (by have := HL.out; have := HL'.out; omega) (fun j hj => HE.out j (by have := HL.out; omega))).symm.trans HZ.out
        go_wp2
        go_ret
        exact ⟨ret_boolR HQ.out, hB⟩
  · have hne' : ((n : Int) != n') = true := by simp; omega
    have HQ : Hid (false = Z) := (Ch.eq_len (by have := HL.out; have := HL'.out; omega)).symm.trans HZ.out
    clear hne
    go_enter Try.func42, Try.ntmps42
    go_wp2
    go_ret
    exact ⟨ret_boolR HQ.out, Below.refl _ _⟩

set_option maxHeartbeats 1000000 in
theorem l14Nums_any (a a' : Option Addr) (n cap n' cap' : Nat) (rs qs : List Int) (w : World) (h : CellsAt w a (n * 1) (icells rs)) (h' : CellsAt w a' (n' * 1) (icells qs)) (hn : n ≤ 9223372036854775807) (hn' : n' ≤ 9223372036854775807) :
    Calls Try.prog 67 #[.slice a n cap, .slice a' n' cap'] w fun e w' => e = .returned (.bool (rs == qs)) ∧ Below w.heap.size w w' := by
  have HL := h.ilen
  have HL' := h'.ilen
  obtain ⟨Z, HZ⟩ : ∃ Z, Hid ((rs == qs) = Z) := ⟨_, rfl⟩
  rw [HZ.out]
  by_cases hne : n = n'
  · subst hne
    have hnn : ((n : Int) != n) = false := by simp
    go_enter Try.func67, Try.ntmps67
    go_wp2
    go_loopw [5] (fun i wr => ∃ k : Nat, k ≤ n ∧ i = .int .i64 k ∧ Hid (∀ j, j < k → rs.getD j 0 = qs.getD j 0) ∧ Below w.heap.size w wr) (fun i _ => n - (intOf i).toNat)
    case atStart => exact ⟨0, Nat.zero_le _, rfl, fun j hj => absurd hj (by omega), Below.refl _ _⟩
    case round =>
      obtain ⟨k, hk, rfl, HE, hB⟩ := hrel
      by_cases hlt : k < n
      · obtain ⟨b, off, rfl, hc0⟩ := (h.below hB).int hlt
        obtain ⟨b', off', rfl, hd0⟩ := (h'.below hB).int hlt
        have HN : Hid ((rs.getD k 0 != qs.getD k 0) = true → false = Z) := fun hx => (Ch.eq_at hx).symm.trans HZ.out
        have HY : Hid ((rs.getD k 0 != qs.getD k 0) = false → ∀ j, j < k + 1 → rs.getD j 0 = qs.getD j 0) := fun hx j hj => by
          rcases Nat.lt_or_ge j k with h1 | h1
          · exact HE.out j h1
          · obtain rfl : j = k := by omega
            simpa using hx
        generalize rs.getD k 0 = r at *
        generalize qs.getD k 0 = q at *
        have hbl := lt_of_cell hc0
        have hbl' := lt_of_cell hd0
        cases hrq : (r != q) with
        | true =>
          have HQ := hid (HN.out hrq)
          clear HN HY
          go_wp2
          go_quiet (fail)
          go_wp2
          go_ret
          exact ⟨ret_boolR HQ.out, hB.trans ⟨rfl, rfl, rfl, Nat.le_refl _, fun _ _ => rfl⟩⟩
        | false =>
          have HQ := hid (HY.out hrq)
          clear HN HY
          go_wp2
          go_quiet (fail)
          go_wp2
          go_roundw
          case rel => exact ⟨k + 1, by omega, by go_num, HQ, hB.trans ⟨rfl, rfl, rfl, Nat.le_refl _, fun _ _ => rfl⟩⟩
          case measure => simp [intOf]; omega
      · obtain rfl : k = n := by omega
        have HQ : Hid (true = Z) := (Ch.eq_same (by have := HL.out; have := HL'.out; omega) (fun j hj => HE.out j (by have := HL.out; omega))).symm.trans HZ.out
        go_wp2
        go_ret
        exact ⟨ret_boolR HQ.out, hB⟩
  · have hne' : ((n : Int) != n') = true := by simp; omega
    have HQ : Hid (false = Z) := (Ch.eq_len (by have := HL.out; have := HL'.out; omega)).symm.trans HZ.out
    clear hne
    go_enter Try.func67, Try.ntmps67
    go_wp2
    go_ret
    exact ⟨ret_boolR HQ.out, Below.refl _ _⟩

theorem Ch.doS_yes {S : Ch.Sl} {tx k a b v : Int} {an : List Int} (h : Ch.isW k = true) : Ch.doS S ⟨tx, k, a, b, v, an⟩ = S.set a (Ch.optV (k == 2) v) := by unfold Ch.doS; rw [if_pos h]
theorem Ch.doS_no {S : Ch.Sl} {tx k a b v : Int} {an : List Int} (h : Ch.isW k = false) : Ch.doS S ⟨tx, k, a, b, v, an⟩ = S := by unfold Ch.doS; rw [if_neg (by simp [h])]

set_option maxHeartbeats 1000000 in
theorem doP_any (p : Nat) (S : Ch.Sl) (tx k a b v : Int) (an : List Int) (w : World) (h : Slt w p S) (hk : Ch.isW k = true → 0 ≤ a ∧ a ≤ 99) :
    Calls Try.prog 44 #[.pointer (some ⟨p, 0, none⟩), .agg #[.int .i64 k, .int .i64 a, .int .i64 b, .int .i64 v]] w fun e w' => e = .returned (.tuple #[]) ∧ Slt w' p (Ch.doS S ⟨tx, k, a, b, v, an⟩) ∧ w.grownBy w' (some p) := by
  have b0 : Below w.heap.size w (w.alloc (.cells #[.int .i64 k, .int .i64 a, .int .i64 b, .int .i64 v] 49)) := (Below.refl _ _).alloc (Nat.le_refl _) _
  have g0 : w.grownBy (w.alloc (.cells #[.int .i64 k, .int .i64 a, .int .i64 b, .int .i64 v] 49)) (some p) := ⟨rfl, rfl, rfl, b0.size, fun j hj _ => b0.block j hj⟩
  have IW := fun W => isWrite_any k W
  cases hw : Ch.isW k with
  | true =>
    rw [Ch.doS_yes hw]
    rw [hw] at IW
    have IS := fun W hW => set_any p a (k == 2) v S W hW (hk hw)
    clear hk
    go_enter Try.func44, Try.ntmps44
    go_wp2_with (go_at_call 61; refine (IW _).mono ?_; rintro e w' ⟨rfl, hww⟩; rw [hww]; clear hww w')
    refine (IS _ (h.below b0)).mono ?_
    rintro e w2 ⟨rfl, s2, g2⟩
    go_wp2
    refine bodyPost_end (results_none rfl _ _ _) rfl ⟨rfl, s2, gr_two g0 g2⟩
  | false =>
    rw [Ch.doS_no hw]
    rw [hw] at IW
    clear hk
    go_enter Try.func44, Try.ntmps44
    go_wp2_with (go_at_call 61; refine (IW _).mono ?_; rintro e w' ⟨rfl, hww⟩; rw [hww]; clear hww w')
    refine bodyPost_end (results_none rfl _ _ _) rfl ⟨rfl, h.below b0, g0⟩

set_option maxHeartbeats 1000000 in
theorem replayF_any (a : Option Addr) (n cap : Nat) (base : List Ch.Row) (a1 : Option Addr) (n1 cap1 : Nat) (ts : List Ch.Ac) (a2 : Option Addr) (n2 cap2 : Nat) (cs : List Int) (w : World) (h : CellsAt w a (n * 3) (rcells base)) (h1 : AcAt w a1 n1 ts) (h2 : CellsAt w a2 (n2 * 1) (icells cs)) (hn : n ≤ 1048576) (hn1 : n1 ≤ 1048576) (hn2 : n2 ≤ 1048576) :
    Calls Try.prog 39 #[.slice a n cap, .slice a1 n1 cap1, .slice a2 n2 cap2] w fun e w' => e = .returned (.int .i64 (Ch.repF base ts cs)) ∧ Below w.heap.size w w' := by
  have HL := h2.ilen
  have HF : Hid (Ch.repF base ts cs = if Ch.acsF ts != 0 then Ch.acsF ts else if Ch.baseF base != 0 then Ch.baseF base else if 40 < n2 then 2 else 0) := by show _ = _; rw [HL.out]; rfl
  rw [HF.out]
  have IA := fun W hW => implActs_any a1 n1 cap1 ts W hW hn1
  have IB := fun W hW => implBase_any a n cap base W hW hn
  generalize Ch.acsF ts = c at *
  generalize Ch.baseF base = d at *
  cases hc : (c != 0) with
  | true =>
    rw [if_pos rfl]
    go_enter Try.func39, Try.ntmps39
    go_wp2_with fail
    refine (IA _ h1).mono ?_
    rintro e w1 ⟨rfl, b1⟩
    go_wp2
    go_ret
    exact ⟨rfl, b1⟩
  | false =>
    rw [if_neg (by decide)]
    cases hd : (d != 0) with
    | true =>
      rw [if_pos rfl]
      go_enter Try.func39, Try.ntmps39
      go_wp2_with fail
      refine (IA _ h1).mono ?_
      rintro e w1 ⟨rfl, b1⟩
      go_wp2_with fail
      refine (IB _ (h.below b1)).mono ?_
      rintro e w2 ⟨rfl, b2⟩
      go_wp2
      go_ret
      exact ⟨rfl, b1.trans (b2.mono b1.size)⟩
    | false =>
      rw [if_neg (by decide)]
      by_cases h4 : 40 < n2
      · rw [if_pos h4]
        go_enter Try.func39, Try.ntmps39
        go_wp2_with fail
        refine (IA _ h1).mono ?_
        rintro e w1 ⟨rfl, b1⟩
        go_wp2_with fail
        refine (IB _ (h.below b1)).mono ?_
        rintro e w2 ⟨rfl, b2⟩
        go_wp2
        go_ret
        exact ⟨rfl, b1.trans (b2.mono b1.size)⟩
      · rw [if_neg h4]
        have h4' : n2 ≤ 40 := by omega
        clear h4
        go_enter Try.func39, Try.ntmps39
        go_wp2_with fail
        refine (IA _ h1).mono ?_
        rintro e w1 ⟨rfl, b1⟩
        go_wp2_with fail
        refine (IB _ (h.below b1)).mono ?_
        rintro e w2 ⟨rfl, b2⟩
        go_wp2
        go_ret
        exact ⟨rfl, b1.trans (b2.mono b1.size)⟩
end Go.Proofs.Ytlpncikiaojmiaa

/- ReplayActs of the model. -/
namespace Go.Proofs.Ytlpncikiaojmiaa
open Go.RowKit

/-- What a round of l14Replay finds. -/
structure RpQ (w : World) (O : Nat) (st : Ch.Rp) (W : World) (a' : Option Addr) (m c' : Nat) : Prop where
  cr : W.heap[w.heap.size]? = some (.cells #[.int .i64 0, .bool false, .slice none 0 0] 29 (0, 0))
  co : W.heap[O]? = some (.cells #[.int .i64 0, .bool st.ok, .slice a' m c'] 29 (0, 0))
  own : W.ownsRow (w.heap.size + 1) 64 3 (.slice a' m c') m (rcells (Ch.rowsS st.s))
  ap : (Value.slice a' m c').ownBlock ≠ some O
  lo : w.heap.size < O
  sz : O + 1 ≤ W.heap.size
  bel : Below w.heap.size w W
theorem RpQ.below {w : World} {O : Nat} {st : Ch.Rp} {A B : World} {a' : Option Addr} {m c' : Nat} (h : RpQ w O st A a' m c') (hb : Below A.heap.size A B) : RpQ w O st B a' m c' :=
  ⟨block_belowV hb h.cr, block_belowV hb h.co, owns_below h.own hb, h.ap, h.lo, Nat.le_trans h.sz hb.size, h.bel.trans (hb.mono h.bel.size)⟩
theorem RpQ.ok {w : World} {O : Nat} {st : Ch.Rp} {W : World} {a' : Option Addr} {m c' : Nat} (h : RpQ w O st W a' m c') (b : Bool) : RpQ w O ⟨st.s, b⟩ (W.setCell ⟨O, 1, none⟩ (.bool b)) a' m c' := by
  have h1 := h.lo
  have hg : W.grownBy (W.setCell ⟨O, 1, none⟩ (.bool b)) (some O) := gr_setW
  refine ⟨block_grownV hg h.cr (by simp; omega), ?_, owns_grown h.own hg (fun g hg' e => h.ap (hg'.trans e.symm)), h.ap, h1, by simpa using h.sz, h.bel.setCell (p := ⟨O, 1, none⟩) (by simp; omega) _⟩
  have := Joins.block_setCell (i := 1) h.co (.bool b)
  simpa using this
theorem RpQ.rows {w : World} {O : Nat} {st : Ch.Rp} {W : World} {a' : Option Addr} {m c' : Nat} (h : RpQ w O st W a' m c') {S : Ch.Sl} {a2 : Option Addr} {m2 c2 : Nat} (ho : W.ownsRow (O + 1) 64 3 (.slice a2 m2 c2) m2 (rcells (Ch.rowsS S))) : RpQ w O ⟨S, st.ok⟩ (W.setCell ⟨O, 2, none⟩ (.slice a2 m2 c2)) a2 m2 c2 := by
  have h1 := h.lo
  have hg : W.grownBy (W.setCell ⟨O, 2, none⟩ (.slice a2 m2 c2)) (some O) := gr_setW
  have hne : (Value.slice a2 m2 c2).ownBlock ≠ some O := own_apartV ho (by omega)
  refine ⟨block_grownV hg h.cr (by simp; omega), ?_, owns_base (owns_grown ho hg (fun g hg' e => hne (hg'.trans e.symm))) (by omega), hne, h1, by simpa using h.sz, h.bel.setCell (p := ⟨O, 2, none⟩) (by simp; omega) _⟩
  have := Joins.block_setCell (i := 2) h.co (.slice a2 m2 c2)
  simpa using this
theorem row3S {W : World} {g : Nat} {t : TypeId} {u0 u1 u2 : Value} (h : W.heap[g]? = some (.cells #[u0, u1, u2] t (0, 0))) :
    W.cell? ⟨g, 0, none⟩ = some u0 ∧ W.cell? ⟨g, 1, none⟩ = some u1 ∧ W.cell? ⟨g, 2, none⟩ = some u2 :=
  ⟨cell_of_row _ _ _ _ _ _ h, cell_of_row _ _ _ _ _ _ h, cell_of_row _ _ _ _ _ _ h⟩
theorem row_lenR {w : World} {B : Nat} {v : Value} {m : Nat} {zs : List Ch.Row} (h : w.ownsRow B 64 3 v m (rcells zs)) : m = zs.length := by
  have := h.1
  rw [rcells_len] at this
  omega

theorem kd_cases (kd : Int) : kd = 2 ∨ kd = 3 ∨ ((kd == 2) = false ∧ (kd == 3) = false) := by
  by_cases h1 : kd = 2
  · exact .inl h1
  · by_cases h4 : kd = 3
    · exact .inr (.inl h4)
    · exact .inr (.inr ⟨by simpa using h1, by simpa using h4⟩)

set_option linter.unusedSimpArgs false in
set_option maxRecDepth 20000 in
set_option maxHeartbeats 8000000 in
theorem l14Replay_any (a : Option Addr) (n cap : Nat) (base : List Ch.Row) (a1 : Option Addr) (n1 cap1 : Nat) (ts : List Ch.Ac) (a2 : Option Addr) (n2 cap2 : Nat) (cs : List Int) (w : World) (h : CellsAt w a (n * 3) (rcells base)) (h1 : AcAt w a1 n1 ts) (h2 : CellsAt w a2 (n2 * 1) (icells cs)) (hn : n ≤ 1048576) (hn1 : n1 ≤ 1048576) (hn2 : n2 ≤ 1048576) (hF : Ch.repF base ts cs = 0) :
    Calls Try.prog 36 #[.slice a n cap, .slice a1 n1 cap1, .slice a2 n2 cap2] w fun e w' => ∃ a' m c', e = .returned (.agg #[.int .i64 0, .bool (Ch.repTo ts cs ⟨Ch.baseTo base base.length, true⟩ cs.length).ok, .slice a' m c']) ∧ m ≤ 100 ∧ w'.ownsRow w.heap.size 64 3 (.slice a' m c') m (rcells (Ch.rowsS (Ch.repTo ts cs ⟨Ch.baseTo base base.length, true⟩ cs.length).s)) ∧ Below w.heap.size w w' := by
  obtain ⟨hFa, hFb, hFc⟩ := Ch.repF_zero hF
  obtain ⟨stE, HstE⟩ : ∃ stE, Hid (Ch.repTo ts cs ⟨Ch.baseTo base base.length, true⟩ cs.length = stE) := ⟨_, rfl⟩
  rw [HstE.out]
  have HBr := hid (Ch.base_rows hFb)
  have HFz := hid (Ch.acsF_zero hFa).2
  have HL1 := h1.len
  have HL2 := h2.ilen
  obtain ⟨i0, hi0, hz0, hz1, hz2⟩ := info_parts Try.info64
  have b0 : Below w.heap.size w (w.alloc (.cells #[.int .i64 0, .bool false, .slice none 0 0] 29)) := (Below.refl _ _).alloc (Nat.le_refl _) _
  have hR0 := heap_alloc_new w (.cells #[.int .i64 0, .bool false, .slice none 0 0] 29)
  have oE := own_empty (w.alloc (.cells #[.int .i64 0, .bool false, .slice none 0 0] 29)) (w.heap.size + 1) 64 3 (by simp)
  have bE := b0.alloc b0.size (.cells #[] 64)
  have hRE := (Below.heap_alloc (w.alloc (.cells #[.int .i64 0, .bool false, .slice none 0 0] 29)) (.cells #[] 64) w.heap.size (by simp)).trans hR0
  have hC3 := h.below bE
  have hb3 : w.heap.size + 1 ≤ ((w.alloc (.cells #[.int .i64 0, .bool false, .slice none 0 0] 29)).alloc (.cells #[] 64)).heap.size := by simp
  have hs1 : (w.alloc (.cells #[.int .i64 0, .bool false, .slice none 0 0] 29)).heap.size = w.heap.size + 1 := by simp
  rw [hs1] at oE
  go_enter Try.func36, Try.ntmps36
  go_wp2_with (at_builtin; go_must (refine wpList_appX Try.underlying27 Try.underlying27 hi0 hz0 hz1 hz2 rfl (by omega) (by omega) (.tmp 11) (.tmp 12) ?_ ?_ (w.heap.size + 1) (.slice (some ⟨w.heap.size + 1, 0, none⟩) 0 0) 0 [] a n cap (rcells base) ?_ ?_ oE hC3 (rcells_oneV _) (by omega) hb3 ?_; exact rfl; exact rfl; exact rfl; exact rfl; intro a5 c5 w5 own5 gr5 at5; go_frame))
  obtain ⟨O, hO⟩ : ∃ O, w5.heap.size = O := ⟨_, rfl⟩
  have hs5 := gr5.size
  simp at hs5
  have own5' : w5.ownsRow (w.heap.size + 1) 64 3 (.slice a5 n c5) n (rcells base) := by simpa using own5
  have hR5 := block_grownV gr5 hRE (by simp [Value.ownBlock])
  have b5 := bE.grown gr5 bE.size (fun g hg => by simp [Value.ownBlock] at hg; omega)
  obtain ⟨st0, Hst0⟩ : ∃ st0, Hid ((⟨Ch.baseTo base base.length, true⟩ : Ch.Rp) = st0) := ⟨_, rfl⟩
  have I0 : RpQ w O st0 (w5.alloc (.cells #[.int .i64 0, .bool true, .slice a5 n c5] 29)) a5 n c5 := by
    rw [← Hst0.out]
    refine ⟨(heap_old' (by omega)).trans hR5, heap_new' hO.symm, ?_, fun e => by have := (owns_lt own5' _ e).2; omega, by omega, by simp [hO], b5.alloc b5.size _⟩
    rw [HBr.out]
    exact own5'.alloc _
  rw [hO]
  simp only [Nat.zero_add]
  clear oE bE hRE hC3 hb3 hs1 own5 own5' gr5 at5 hR0 hR5 b5 b0
  generalize w5.alloc (.cells #[.int .i64 0, .bool true, .slice a5 n c5] 29) = V at *
  have HA1 : Hid (AcAt w a1 n1 ts) := h1
  have HA2 : Hid (CellsAt w a2 (n2 * 1) (icells cs)) := h2
  clear h1 h2
  go_loopw [8] (fun iv wr => ∃ (i : Nat) (a' : Option Addr) (m c' : Nat), i ≤ n2 ∧ iv = .int .i64 i ∧ RpQ w O (Ch.repTo ts cs st0 i) wr a' m c') (fun iv _ => n2 - (intOf iv).toNat)
  case atStart => exact ⟨0, _, _, _, Nat.zero_le _, rfl, I0⟩
  case round =>
    clear I0 hO hs5
    generalize wr = wo at *
    obtain ⟨i, a', m, c', hi, rfl, hI⟩ := hrel
    by_cases hlt : i < n2
    · obtain ⟨cb, coff, rfl, _⟩ := (HA2.out.below hI.bel).int hlt
      have HC : Hid (∀ W, Below w.heap.size w W → W.cell? ⟨cb, coff + i, none⟩ = some (.int .i64 (cs.getD i 0))) := fun W hW => by
        obtain ⟨cb', coff', hab, hc⟩ := (HA2.out.below hW).int hlt
        simp only [Option.some.injEq, Addr.mk.injEq, and_true] at hab
        obtain ⟨rfl, rfl⟩ := hab
        exact hc
      have HStep := hid (Ch.repTo_step ts st0 (cs := cs) (m := i) (by have := HL2.out; omega))
      obtain ⟨st, Hst⟩ : ∃ st, Hid (Ch.repTo ts cs st0 i = st) := ⟨_, rfl⟩
      rw [Hst.out] at hI HStep
      generalize cs.getD i 0 = c at *
      have I1 : RpQ w O (Ch.repL ts st (Ch.actsOf ts c 0)) wo a' m c' := hI
      clear hI
      go_wp2
      go_loopw [9] (fun kv wx => ∃ (k : Nat) (a' : Option Addr) (m c' : Nat), k ≤ n1 ∧ kv = .int .i64 k ∧ RpQ w O (Ch.repL ts st (Ch.actsOf ts c k)) wx a' m c') (fun kv _ => n1 - (intOf kv).toNat)
      case atStart => exact ⟨0, _, _, _, Nat.zero_le _, rfl, I1⟩
      case round =>
        clear I1 a' m c'
        generalize wr = wx at *
        obtain ⟨k, a', m, c', hk, rfl, hI⟩ := hrel
        by_cases hkl : k < n1
        · obtain ⟨b, off, ai, ni, ci, rfl, hd0, hd1, hd2, hd3, hd4, hd5, hcan, hni⟩ := (HA1.out.below hI.bel).act hkl
          have hc0 := HC.out _ hI.bel
          have HN : Hid (((Ch.acAt ts k).tx == c) = false → Ch.repL ts st (Ch.actsOf ts c (k + 1)) = Ch.repL ts st (Ch.actsOf ts c k)) := fun hx => Ch.repL_no hx
          have HY : Hid (((Ch.acAt ts k).tx == c) = true → Ch.repL ts st (Ch.actsOf ts c (k + 1)) = Ch.rep1 (Ch.repL ts st (Ch.actsOf ts c k)) (Ch.acAt ts k)) := fun hx => Ch.repL_yes hx
          have HWk := hid (Ch.write_ok HFz.out k)
          have hbw : b < w.heap.size := by
            obtain ⟨b', off', _, _, _, hab, q0, _⟩ := HA1.out.act hkl
            simp only [Option.some.injEq, Addr.mk.injEq, and_true] at hab
            obtain ⟨rfl, rfl⟩ := hab
            exact lt_of_cell q0
          have hbl := lt_of_cell hd0
          have hcl := lt_of_cell hc0
          have hOx := hI.lo
          generalize Ch.acAt ts k = t at *
          obtain ⟨tx, kd, ka, kb, kv, an⟩ := t
          simp only at hd0 hd1 hd2 hd3 hd4 hcan HN HY HWk
          obtain ⟨st1, Hst1⟩ : ∃ st1, Hid (Ch.repL ts st (Ch.actsOf ts c k) = st1) := ⟨_, rfl⟩
          rw [Hst1.out] at hI HN HY
          by_cases he : (tx == c) = true
          · have hne : (tx != c) = false := by simpa [bne] using he
            have HQ := hid (HY.out he)
            clear HN HY he
            go_wp2_with fail
            refine wp_region_noPanic ?_
            refine wp_region_held_drew (S := fun W' => W'.cell? ⟨b, off + k * 6, none⟩ = some (.int .i64 tx) ∧ W'.cell? ⟨cb, coff + i, none⟩ = some (.int .i64 c) ∧ Below wx.heap.size wx W') (by kernel_rfl) (⟨hd0, hc0, (Below.refl _ _).drew⟩) (fun hH => ?_)
            refine hTake (i := 0) (v := ?_) rfl (by kernel_rfl) (by kernel_rfl) (by kernel_rfl) (by rfl) ?_ hH ?_
            rotate_left
            · intro W hW; (try dsimp only at hW); go_simp <;> with_reducible rfl
            simp only [Act.put, List.setIfInBounds_toArray, List.set_cons_zero, List.set_cons_succ]
            refine hTake (i := 1) (v := ?_) rfl (by kernel_rfl) (by kernel_rfl) (by kernel_rfl) (by rfl) ?_ hH ?_
            rotate_left
            · intro W hW; (try dsimp only at hW); go_simp <;> with_reducible rfl
            simp only [Act.put, List.setIfInBounds_toArray, List.set_cons_zero, List.set_cons_succ]
            refine hTake (i := 2) (v := ?_) rfl (by kernel_rfl) (by kernel_rfl) (by kernel_rfl) (by rfl) ?_ hH ?_
            rotate_left
            · intro W hW; (try dsimp only at hW); go_simp <;> with_reducible rfl
            simp only [Act.put, List.setIfInBounds_toArray, List.set_cons_zero, List.set_cons_succ]
            refine hTake (i := 3) (v := ?_) rfl (by kernel_rfl) (by kernel_rfl) (by kernel_rfl) (by rfl) ?_ hH ?_
            rotate_left
            · intro W hW; (try dsimp only at hW); go_simp <;> with_reducible rfl
            simp only [Act.put, List.setIfInBounds_toArray, List.set_cons_zero, List.set_cons_succ]
            refine hTake (i := 4) (v := ?_) rfl (by kernel_rfl) (by kernel_rfl) (by kernel_rfl) (by rfl) ?_ hH ?_
            rotate_left
            · intro W hW; (try dsimp only at hW); go_simp <;> with_reducible rfl
            simp only [Act.put, List.setIfInBounds_toArray, List.set_cons_zero, List.set_cons_succ]
            refine hTake (i := 5) (v := ?_) rfl (by kernel_rfl) (by kernel_rfl) (by kernel_rfl) (by rfl) ?_ hH ?_
            rotate_left
            · intro W hW; (try dsimp only at hW); go_simp <;> with_reducible rfl
            simp only [Act.put, List.setIfInBounds_toArray, List.set_cons_zero, List.set_cons_succ]
            refine hTake (i := 6) (v := ?_) rfl (by kernel_rfl) (by kernel_rfl) (by kernel_rfl) (by rfl) ?_ hH ?_
            rotate_left
            · intro W hW; (try dsimp only at hW); go_simp <;> with_reducible rfl
            simp only [Act.put, List.setIfInBounds_toArray, List.set_cons_zero, List.set_cons_succ]
            refine hTake (i := 7) (v := ?_) rfl (by kernel_rfl) (by kernel_rfl) (by kernel_rfl) (by rfl) ?_ hH ?_
            rotate_left
            · intro W hW; (try dsimp only at hW); go_simp <;> with_reducible rfl
            simp only [Act.put, List.setIfInBounds_toArray, List.set_cons_zero, List.set_cons_succ]
            refine hTake (i := 8) (v := ?_) rfl (by kernel_rfl) (by kernel_rfl) (by kernel_rfl) (by rfl) ?_ hH ?_
            rotate_left
            · intro W hW; (try dsimp only at hW); go_simp <;> with_reducible rfl
            simp only [Act.put, List.setIfInBounds_toArray, List.set_cons_zero, List.set_cons_succ]
            refine hTake (i := 9) (v := ?_) rfl (by kernel_rfl) (by kernel_rfl) (by kernel_rfl) (by rfl) ?_ hH ?_
            rotate_left
            · intro W hW; (try dsimp only at hW); go_simp <;> with_reducible rfl
            simp only [Act.put, List.setIfInBounds_toArray, List.set_cons_zero, List.set_cons_succ]
            refine wpAnyH_done (by kernel_rfl) ?_ _
            refine NoPanic.normal ?_
            obtain ⟨_, _, hB8⟩ := hH
            have hBb : Below wx.heap.size wx (wx.alloc (.cells #[.int .i64 kd, .int .i64 ka, .int .i64 kb, .int .i64 kv] 49)).drew := ((Below.refl _ _).alloc (Nat.le_refl _) _).drew
            have hIb := hI.below hBb
            have hob : (wx.alloc (.cells #[.int .i64 kd, .int .i64 ka, .int .i64 kb, .int .i64 kv] 49)).drew.heap[wx.heap.size]? = some (.cells #[.int .i64 kd, .int .i64 ka, .int .i64 kb, .int .i64 kv] 49 (0, 0)) := heap_alloc_new wx _
            have w5 := keep_cell hBb hd5
            have hcan10 := hcan.below hBb
            have hsx : O + 1 ≤ wx.heap.size := hI.sz
            obtain ⟨Bo, hBo⟩ : ∃ Bo, wx.heap.size = Bo := ⟨_, rfl⟩
            rw [hBo] at hob hsx
            have y0 : (wx.alloc (.cells #[.int .i64 kd, .int .i64 ka, .int .i64 kb, .int .i64 kv] 49)).drew.cell? ⟨Bo, 0, none⟩ = some (.int .i64 kd) := cell_of_row _ _ _ _ _ _ hob
            have y1 : (wx.alloc (.cells #[.int .i64 kd, .int .i64 ka, .int .i64 kb, .int .i64 kv] 49)).drew.cell? ⟨Bo, 1, none⟩ = some (.int .i64 ka) := cell_of_row _ _ _ _ _ _ hob
            have y2 : (wx.alloc (.cells #[.int .i64 kd, .int .i64 ka, .int .i64 kb, .int .i64 kv] 49)).drew.cell? ⟨Bo, 2, none⟩ = some (.int .i64 kb) := cell_of_row _ _ _ _ _ _ hob
            have y3 : (wx.alloc (.cells #[.int .i64 kd, .int .i64 ka, .int .i64 kb, .int .i64 kv] 49)).drew.cell? ⟨Bo, 3, none⟩ = some (.int .i64 kv) := cell_of_row _ _ _ _ _ _ hob
            obtain ⟨_, z1, z2⟩ := row3S hIb.co
            have fz1 := Joins.unfrozen_of_block hIb.co 1
            have hbO : b ≠ O := by omega
            have hBO : Bo ≠ O := by omega
            obtain ⟨S1, ok1⟩ := st1
            obtain ⟨zs, HZS⟩ : ∃ zs, Hid (Ch.rowsS S1 = zs) := ⟨_, rfl⟩
            have hz10 := owns_cells hIb.own
            simp only [HZS.out] at hz10
            have hm : m ≤ 1048576 := by have h3 : m = (Ch.rowsS S1).length := row_lenR hIb.own; have := Ch.rowsS_len S1; omega
            simp only at z1
            clear hd0 hd5 hc0 hB8 hob hI hcan hcl hbw
            cases ok1 with
            | true =>
              go_wp2_with fail
              try rw [hBo]
              clear hd1 hd2 hd3 hd4 hbl
              generalize (wx.alloc (.cells #[.int .i64 kd, .int .i64 ka, .int .i64 kb, .int .i64 kv] 49)).drew = Wb at *
              refine wp_region_noPanic ?_
              refine wp_region_held_drew (S := fun W' => W'.cell? ⟨b, off + k * 6 + 5, none⟩ = some (.slice ai ni ci) ∧ W'.cell? ⟨O, 2, none⟩ = some (.slice a' m c') ∧ W'.cell? ⟨Bo, 0, none⟩ = some (.int .i64 kd) ∧ W'.cell? ⟨Bo, 1, none⟩ = some (.int .i64 ka) ∧ W'.cell? ⟨Bo, 2, none⟩ = some (.int .i64 kb) ∧ W'.cell? ⟨Bo, 3, none⟩ = some (.int .i64 kv)) (by kernel_rfl) (⟨w5, z2, y0, y1, y2, y3⟩) (fun hH => ?_)
              refine hTake (i := 0) (v := ?_) rfl (by kernel_rfl) (by kernel_rfl) (by kernel_rfl) (by rfl) ?_ hH ?_
              rotate_left
              · intro W hW; (try dsimp only at hW); go_simp <;> with_reducible rfl
              simp only [Act.put, List.setIfInBounds_toArray, List.set_cons_zero, List.set_cons_succ]
              refine wpAnyH_ready (rs := [1]) (by kernel_rfl) (by simp) ?_
              refine AllReadyH.cons rfl (fun K hK => ?_) AllReadyH.nil
              go_simp
              refine hK.out _ _ ?_ (fun hH => ?_)
              · exact hH
              clear hK K
              refine hTake (i := 2) (v := ?_) rfl (by kernel_rfl) (by kernel_rfl) (by kernel_rfl) (by rfl) ?_ hH ?_
              rotate_left
              · intro W hW; (try dsimp only at hW); go_simp <;> with_reducible rfl
              simp only [Act.put, List.setIfInBounds_toArray, List.set_cons_zero, List.set_cons_succ]
              refine hTake (i := 3) (v := ?_) rfl (by kernel_rfl) (by kernel_rfl) (by kernel_rfl) (by rfl) ?_ hH ?_
              rotate_left
              · intro W hW; (try dsimp only at hW); go_simp <;> with_reducible rfl
              simp only [Act.put, List.setIfInBounds_toArray, List.set_cons_zero, List.set_cons_succ]
              refine hTake (i := 4) (v := ?_) rfl (by kernel_rfl) (by kernel_rfl) (by kernel_rfl) (by rfl) ?_ hH ?_
              rotate_left
              · intro W hW; (try dsimp only at hW); go_simp <;> with_reducible rfl
              simp only [Act.put, List.setIfInBounds_toArray, List.set_cons_zero, List.set_cons_succ]
              refine hTake (i := 5) (v := ?_) rfl (by kernel_rfl) (by kernel_rfl) (by kernel_rfl) (by rfl) ?_ hH ?_
              rotate_left
              · intro W hW; (try dsimp only at hW); go_simp <;> with_reducible rfl
              simp only [Act.put, List.setIfInBounds_toArray, List.set_cons_zero, List.set_cons_succ]
              refine hTake (i := 6) (v := ?_) rfl (by kernel_rfl) (by kernel_rfl) (by kernel_rfl) (by rfl) ?_ hH ?_
              rotate_left
              · intro W hW; (try dsimp only at hW); go_simp <;> with_reducible rfl
              simp only [Act.put, List.setIfInBounds_toArray, List.set_cons_zero, List.set_cons_succ]
              refine hTake (i := 7) (v := ?_) rfl (by kernel_rfl) (by kernel_rfl) (by kernel_rfl) (by rfl) ?_ hH ?_
              rotate_left
              · intro W hW; (try dsimp only at hW); go_simp <;> with_reducible rfl
              simp only [Act.put, List.setIfInBounds_toArray, List.set_cons_zero, List.set_cons_succ]
              refine hTake (i := 8) (v := ?_) rfl (by kernel_rfl) (by kernel_rfl) (by kernel_rfl) (by rfl) ?_ hH ?_
              rotate_left
              · intro W hW; (try dsimp only at hW); go_simp <;> with_reducible rfl
              simp only [Act.put, List.setIfInBounds_toArray, List.set_cons_zero, List.set_cons_succ]
              refine hTake (i := 9) (v := ?_) rfl (by kernel_rfl) (by kernel_rfl) (by kernel_rfl) (by rfl) ?_ hH ?_
              rotate_left
              · intro W hW; (try dsimp only at hW); go_simp <;> with_reducible rfl
              simp only [Act.put, List.setIfInBounds_toArray, List.set_cons_zero, List.set_cons_succ]
              refine hTake (i := 10) (v := ?_) rfl (by kernel_rfl) (by kernel_rfl) (by kernel_rfl) (by rfl) ?_ hH ?_
              rotate_left
              · intro W hW; (try dsimp only at hW); go_simp <;> with_reducible rfl
              simp only [Act.put, List.setIfInBounds_toArray, List.set_cons_zero, List.set_cons_succ]
              refine wpAnyH_ready (rs := [11]) (by kernel_rfl) (by simp) ?_
              refine AllReadyH.cons rfl (fun K hK => ?_) AllReadyH.nil
              go_simp
              refine (answer_any a' m c' zs kd ka kb kv Wb.drew hz10 hm).mono ?_
              rintro e w3 ⟨a3, m3, c3, rfl, hm3, o3, b3⟩
              have b3 : Below Wb.heap.size Wb w3 := ⟨b3.os, b3.tape, b3.output, b3.size, b3.block⟩
              go_wp2_with fail
              refine hK.out _ _ ?_ (fun hH => ?_)
              · exact ⟨keep_cell (show Below Wb.drew.heap.size Wb.drew w3 from ⟨b3.os, b3.tape, b3.output, b3.size, b3.block⟩) hH.1, keep_cell (show Below Wb.drew.heap.size Wb.drew w3 from ⟨b3.os, b3.tape, b3.output, b3.size, b3.block⟩) hH.2.1, keep_cell (show Below Wb.drew.heap.size Wb.drew w3 from ⟨b3.os, b3.tape, b3.output, b3.size, b3.block⟩) hH.2.2.1, keep_cell (show Below Wb.drew.heap.size Wb.drew w3 from ⟨b3.os, b3.tape, b3.output, b3.size, b3.block⟩) hH.2.2.2.1, keep_cell (show Below Wb.drew.heap.size Wb.drew w3 from ⟨b3.os, b3.tape, b3.output, b3.size, b3.block⟩) hH.2.2.2.2.1, keep_cell (show Below Wb.drew.heap.size Wb.drew w3 from ⟨b3.os, b3.tape, b3.output, b3.size, b3.block⟩) hH.2.2.2.2.2⟩
              clear hK K
              refine wpAnyH_ready (rs := [12]) (by kernel_rfl) (by simp) ?_
              refine AllReadyH.cons rfl (fun K hK => ?_) AllReadyH.nil
              go_simp
              refine (l14Nums_any ai a3 ni ci m3 c3 an _ _ (hcan10.below b3) (owns_cells o3) hni (by omega)).mono ?_
              rintro e w4 ⟨rfl, b4⟩
              go_wp2_with fail
              refine hK.out _ _ ?_ (fun hH => ?_)
              · exact ⟨keep_cell b4 hH.1, keep_cell b4 hH.2.1, keep_cell b4 hH.2.2.1, keep_cell b4 hH.2.2.2.1, keep_cell b4 hH.2.2.2.2.1, keep_cell b4 hH.2.2.2.2.2⟩
              clear hK K
              refine hTake (i := 13) (v := ?_) rfl (by kernel_rfl) (by kernel_rfl) (by kernel_rfl) (by rfl) ?_ hH ?_
              rotate_left
              · intro W hW; (try dsimp only at hW); go_simp <;> with_reducible rfl
              simp only [Act.put, List.setIfInBounds_toArray, List.set_cons_zero, List.set_cons_succ]
              refine hTake (i := 14) (v := ?_) rfl (by kernel_rfl) (by kernel_rfl) (by kernel_rfl) (by rfl) ?_ hH ?_
              rotate_left
              · intro W hW; (try dsimp only at hW); go_simp <;> with_reducible rfl
              simp only [Act.put, List.setIfInBounds_toArray, List.set_cons_zero, List.set_cons_succ]
              refine wpAnyH_ready (rs := [15]) (by kernel_rfl) (by simp) ?_
              refine AllReadyH.cons rfl (fun K hK => ?_) AllReadyH.nil
              have e1 := keep_cell b4 (keep_cell b3 z1)
              have f1 := ((b4.frozen (p := ⟨O, 1, none⟩) (lt_of_cell (keep_cell b3 z1))).trans ((b3.frozen (p := ⟨O, 1, none⟩) (lt_of_cell z1)).trans fz1))
              have lO := lt_of_cell e1
              go_simp
              refine hK.out _ _ ?_ (fun hH => ?_)
              · have nb : b ≠ O := hbO
                have nB : Bo ≠ O := hBO
                refine ⟨?_, ?_, ?_, ?_, ?_, ?_⟩
                · rw [World.cell?_setCell_other _ _ _ _ (by simp [nb])]; exact hH.1
                · rw [World.cell?_setCell_other _ _ _ _ (by simp)]; exact hH.2.1
                · rw [World.cell?_setCell_other _ _ _ _ (by simp [nB])]; exact hH.2.2.1
                · rw [World.cell?_setCell_other _ _ _ _ (by simp [nB])]; exact hH.2.2.2.1
                · rw [World.cell?_setCell_other _ _ _ _ (by simp [nB])]; exact hH.2.2.2.2.1
                · rw [World.cell?_setCell_other _ _ _ _ (by simp [nB])]; exact hH.2.2.2.2.2
              clear hK K
              refine wpAnyH_done (by kernel_rfl) ?_ _
              refine NoPanic.normal ?_
              have b3' : Below Wb.heap.size Wb w3 := ⟨b3.os, b3.tape, b3.output, b3.size, b3.block⟩
              have hI5 := ((hIb.below b3').below b4).ok (an == Ch.tell kd ka kb kv (Ch.rowsS S1))
              simp only [HZS.out] at hI5
              obtain ⟨_, z2', y0', y1', y2', y3'⟩ := hH
              have lz2 := lt_of_cell z2'
              have ly0 := lt_of_cell y0'
              have hs5 := hI5.sz
              have hz5 := owns_cells hI5.own
              simp only [HZS.out] at hz5
              have hRep : Hid (Ch.rep1 ⟨S1, true⟩ ⟨tx, kd, ka, kb, kv, an⟩ = ⟨Ch.doS S1 ⟨tx, kd, ka, kb, kv, an⟩, an == Ch.tell kd ka kb kv (Ch.rowsS S1)⟩) := rfl
              rcases kd_cases kd with rfl | rfl | ⟨k2, k3⟩
              · have hS2 := hid (Ch.setZ_rows S1 (HWk.out rfl) true kv)
                rw [HZS.out] at hS2
                go_wp2_with fail
                refine (specSet_any a' m c' ka true kv zs _ hz5 hm).mono ?_
                rintro e w6 ⟨a6, m6, c6, rfl, o6, b6⟩
                rw [hS2.out] at o6
                have hI6 := hI5.below b6
                obtain ⟨_, _, u2⟩ := row3S hI6.co
                have fu2 := Joins.unfrozen_of_block hI6.co 2
                have lu2 := lt_of_cell u2
                have hI7 := hI6.rows (owns_base o6 hs5)
                go_wp2
                go_roundw
                case rel => exact ⟨k + 1, a6, m6, c6, by omega, by go_num, by rw [HQ.out, hRep.out, HZS.out, Ch.doS_yes rfl]; exact hI7⟩
                case measure => simp [intOf]; omega
              · have hS2 := hid (Ch.setZ_rows S1 (HWk.out rfl) false 0)
                rw [HZS.out] at hS2
                go_wp2_with fail
                refine (specSet_any a' m c' ka false 0 zs _ hz5 hm).mono ?_
                rintro e w6 ⟨a6, m6, c6, rfl, o6, b6⟩
                rw [hS2.out] at o6
                have hI6 := hI5.below b6
                obtain ⟨_, _, u2⟩ := row3S hI6.co
                have fu2 := Joins.unfrozen_of_block hI6.co 2
                have lu2 := lt_of_cell u2
                have hI7 := hI6.rows (owns_base o6 hs5)
                go_wp2
                go_roundw
                case rel => exact ⟨k + 1, a6, m6, c6, by omega, by go_num, by rw [HQ.out, hRep.out, HZS.out, Ch.doS_yes rfl]; exact hI7⟩
                case measure => simp [intOf]; omega
              · have hno : Hid (Ch.doS S1 ⟨tx, kd, ka, kb, kv, an⟩ = S1) := Ch.doS_no (by unfold Ch.isW; rw [k2, k3]; rfl)
                go_wp2
                go_roundw
                case rel => exact ⟨k + 1, a', m, c', by omega, by go_num, by rw [HQ.out, hRep.out, hno.out, HZS.out]; exact hI5⟩
                case measure => simp [intOf]; omega
            | false =>
              go_wp2_with fail
              try rw [hBo]
              clear hd1 hd2 hd3 hd4 hbl
              generalize (wx.alloc (.cells #[.int .i64 kd, .int .i64 ka, .int .i64 kb, .int .i64 kv] 49)).drew = Wb at *
              refine wp_region_noPanic ?_
              refine wp_region_held_drew (S := fun W' => W'.cell? ⟨b, off + k * 6 + 5, none⟩ = some (.slice ai ni ci) ∧ W'.cell? ⟨O, 2, none⟩ = some (.slice a' m c') ∧ W'.cell? ⟨Bo, 0, none⟩ = some (.int .i64 kd) ∧ W'.cell? ⟨Bo, 1, none⟩ = some (.int .i64 ka) ∧ W'.cell? ⟨Bo, 2, none⟩ = some (.int .i64 kb) ∧ W'.cell? ⟨Bo, 3, none⟩ = some (.int .i64 kv)) (by kernel_rfl) (⟨w5, z2, y0, y1, y2, y3⟩) (fun hH => ?_)
              refine hTake (i := 0) (v := ?_) rfl (by kernel_rfl) (by kernel_rfl) (by kernel_rfl) (by rfl) ?_ hH ?_
              rotate_left
              · intro W hW; (try dsimp only at hW); go_simp <;> with_reducible rfl
              simp only [Act.put, List.setIfInBounds_toArray, List.set_cons_zero, List.set_cons_succ]
              refine wpAnyH_ready (rs := [1]) (by kernel_rfl) (by simp) ?_
              refine AllReadyH.cons rfl (fun K hK => ?_) AllReadyH.nil
              go_simp
              refine hK.out _ _ ?_ (fun hH => ?_)
              · exact hH
              clear hK K
              refine hTake (i := 2) (v := ?_) rfl (by kernel_rfl) (by kernel_rfl) (by kernel_rfl) (by rfl) ?_ hH ?_
              rotate_left
              · intro W hW; (try dsimp only at hW); go_simp <;> with_reducible rfl
              simp only [Act.put, List.setIfInBounds_toArray, List.set_cons_zero, List.set_cons_succ]
              refine hSkip (i := 3) rfl (by kernel_rfl) (by kernel_rfl) (by kernel_rfl) (by rfl) hH ?_
              simp only [Act.put, List.setIfInBounds_toArray, List.set_cons_zero, List.set_cons_succ]
              refine hSkip (i := 4) rfl (by kernel_rfl) (by kernel_rfl) (by kernel_rfl) (by rfl) hH ?_
              simp only [Act.put, List.setIfInBounds_toArray, List.set_cons_zero, List.set_cons_succ]
              refine hSkip (i := 5) rfl (by kernel_rfl) (by kernel_rfl) (by kernel_rfl) (by rfl) hH ?_
              simp only [Act.put, List.setIfInBounds_toArray, List.set_cons_zero, List.set_cons_succ]
              refine hSkip (i := 6) rfl (by kernel_rfl) (by kernel_rfl) (by kernel_rfl) (by rfl) hH ?_
              simp only [Act.put, List.setIfInBounds_toArray, List.set_cons_zero, List.set_cons_succ]
              refine hSkip (i := 7) rfl (by kernel_rfl) (by kernel_rfl) (by kernel_rfl) (by rfl) hH ?_
              simp only [Act.put, List.setIfInBounds_toArray, List.set_cons_zero, List.set_cons_succ]
              refine hSkip (i := 8) rfl (by kernel_rfl) (by kernel_rfl) (by kernel_rfl) (by rfl) hH ?_
              simp only [Act.put, List.setIfInBounds_toArray, List.set_cons_zero, List.set_cons_succ]
              refine hSkip (i := 9) rfl (by kernel_rfl) (by kernel_rfl) (by kernel_rfl) (by rfl) hH ?_
              simp only [Act.put, List.setIfInBounds_toArray, List.set_cons_zero, List.set_cons_succ]
              refine hSkip (i := 10) rfl (by kernel_rfl) (by kernel_rfl) (by kernel_rfl) (by rfl) hH ?_
              simp only [Act.put, List.setIfInBounds_toArray, List.set_cons_zero, List.set_cons_succ]
              refine hSkip (i := 11) rfl (by kernel_rfl) (by kernel_rfl) (by kernel_rfl) (by rfl) hH ?_
              simp only [Act.put, List.setIfInBounds_toArray, List.set_cons_zero, List.set_cons_succ]
              refine hSkip (i := 12) rfl (by kernel_rfl) (by kernel_rfl) (by kernel_rfl) (by rfl) hH ?_
              simp only [Act.put, List.setIfInBounds_toArray, List.set_cons_zero, List.set_cons_succ]
              refine hTake (i := 13) (v := ?_) rfl (by kernel_rfl) (by kernel_rfl) (by kernel_rfl) (by rfl) ?_ hH ?_
              rotate_left
              · intro W hW; (try dsimp only at hW); go_simp <;> with_reducible rfl
              simp only [Act.put, List.setIfInBounds_toArray, List.set_cons_zero, List.set_cons_succ]
              refine hTake (i := 14) (v := ?_) rfl (by kernel_rfl) (by kernel_rfl) (by kernel_rfl) (by rfl) ?_ hH ?_
              rotate_left
              · intro W hW; (try dsimp only at hW); go_simp <;> with_reducible rfl
              simp only [Act.put, List.setIfInBounds_toArray, List.set_cons_zero, List.set_cons_succ]
              refine wpAnyH_ready (rs := [15]) (by kernel_rfl) (by simp) ?_
              refine AllReadyH.cons rfl (fun K hK => ?_) AllReadyH.nil
              have e1 := z1
              have lO := lt_of_cell e1
              go_simp
              refine hK.out _ _ ?_ (fun hH => ?_)
              · have nb : b ≠ O := hbO
                have nB : Bo ≠ O := hBO
                refine ⟨?_, ?_, ?_, ?_, ?_, ?_⟩
                · show (Wb.setCell ⟨O, 1, none⟩ (.bool false)).cell? ⟨b, off + k * 6 + 5, none⟩ = _; rw [World.cell?_setCell_other _ _ _ _ (by simp [nb])]; exact hH.1
                · show (Wb.setCell ⟨O, 1, none⟩ (.bool false)).cell? ⟨O, 2, none⟩ = _; rw [World.cell?_setCell_other _ _ _ _ (by simp)]; exact hH.2.1
                · show (Wb.setCell ⟨O, 1, none⟩ (.bool false)).cell? ⟨Bo, 0, none⟩ = _; rw [World.cell?_setCell_other _ _ _ _ (by simp [nB])]; exact hH.2.2.1
                · show (Wb.setCell ⟨O, 1, none⟩ (.bool false)).cell? ⟨Bo, 1, none⟩ = _; rw [World.cell?_setCell_other _ _ _ _ (by simp [nB])]; exact hH.2.2.2.1
                · show (Wb.setCell ⟨O, 1, none⟩ (.bool false)).cell? ⟨Bo, 2, none⟩ = _; rw [World.cell?_setCell_other _ _ _ _ (by simp [nB])]; exact hH.2.2.2.2.1
                · show (Wb.setCell ⟨O, 1, none⟩ (.bool false)).cell? ⟨Bo, 3, none⟩ = _; rw [World.cell?_setCell_other _ _ _ _ (by simp [nB])]; exact hH.2.2.2.2.2
              clear hK K
              refine wpAnyH_done (by kernel_rfl) ?_ _
              refine NoPanic.normal ?_
              have hD10 : Below Wb.heap.size Wb Wb.drew := (Below.refl _ _).drew
              have hI5 := (hIb.below hD10).ok false
              obtain ⟨_, z2', y0', y1', y2', y3'⟩ := hH
              have lz2 := lt_of_cell z2'
              have ly0 := lt_of_cell y0'
              have hs5 := hI5.sz
              have hz5 := owns_cells hI5.own
              simp only [HZS.out] at hz5
              have hRep : Hid (Ch.rep1 ⟨S1, false⟩ ⟨tx, kd, ka, kb, kv, an⟩ = ⟨Ch.doS S1 ⟨tx, kd, ka, kb, kv, an⟩, false⟩) := rfl
              rcases kd_cases kd with rfl | rfl | ⟨k2, k3⟩
              · have hS2 := hid (Ch.setZ_rows S1 (HWk.out rfl) true kv)
                rw [HZS.out] at hS2
                go_wp2_with fail
                refine (specSet_any a' m c' ka true kv zs _ hz5 hm).mono ?_
                rintro e w6 ⟨a6, m6, c6, rfl, o6, b6⟩
                rw [hS2.out] at o6
                have hI6 := hI5.below b6
                obtain ⟨_, _, u2⟩ := row3S hI6.co
                have fu2 := Joins.unfrozen_of_block hI6.co 2
                have lu2 := lt_of_cell u2
                have hI7 := hI6.rows (owns_base o6 hs5)
                go_wp2
                go_roundw
                case rel => exact ⟨k + 1, a6, m6, c6, by omega, by go_num, by rw [HQ.out, hRep.out, Ch.doS_yes rfl]; exact hI7⟩
                case measure => simp [intOf]; omega
              · have hS2 := hid (Ch.setZ_rows S1 (HWk.out rfl) false 0)
                rw [HZS.out] at hS2
                go_wp2_with fail
                refine (specSet_any a' m c' ka false 0 zs _ hz5 hm).mono ?_
                rintro e w6 ⟨a6, m6, c6, rfl, o6, b6⟩
                rw [hS2.out] at o6
                have hI6 := hI5.below b6
                obtain ⟨_, _, u2⟩ := row3S hI6.co
                have fu2 := Joins.unfrozen_of_block hI6.co 2
                have lu2 := lt_of_cell u2
                have hI7 := hI6.rows (owns_base o6 hs5)
                go_wp2
                go_roundw
                case rel => exact ⟨k + 1, a6, m6, c6, by omega, by go_num, by rw [HQ.out, hRep.out, Ch.doS_yes rfl]; exact hI7⟩
                case measure => simp [intOf]; omega
              · have hno : Hid (Ch.doS S1 ⟨tx, kd, ka, kb, kv, an⟩ = S1) := Ch.doS_no (by unfold Ch.isW; rw [k2, k3]; rfl)
                go_wp2
                go_roundw
                case rel => exact ⟨k + 1, a', m, c', by omega, by go_num, by rw [HQ.out, hRep.out, hno.out]; exact hI5⟩
                case measure => simp [intOf]; omega
          · have he' : (tx == c) = false := by simpa using he
            have hne : (tx != c) = true := by simp [bne, he']
            have HQ := hid (HN.out he')
            clear HN HY he
            go_wp2_with fail
            refine wp_region_noPanic ?_
            refine wp_region_held_drew (S := fun W' => W'.cell? ⟨b, off + k * 6, none⟩ = some (.int .i64 tx) ∧ W'.cell? ⟨cb, coff + i, none⟩ = some (.int .i64 c) ∧ Below wx.heap.size wx W') (by kernel_rfl) (⟨hd0, hc0, (Below.refl _ _).drew⟩) (fun hH => ?_)
            refine hTake (i := 0) (v := ?_) rfl (by kernel_rfl) (by kernel_rfl) (by kernel_rfl) (by rfl) ?_ hH ?_
            rotate_left
            · intro W hW; (try dsimp only at hW); go_simp <;> with_reducible rfl
            simp only [Act.put, List.setIfInBounds_toArray, List.set_cons_zero, List.set_cons_succ]
            refine hTake (i := 1) (v := ?_) rfl (by kernel_rfl) (by kernel_rfl) (by kernel_rfl) (by rfl) ?_ hH ?_
            rotate_left
            · intro W hW; (try dsimp only at hW); go_simp <;> with_reducible rfl
            simp only [Act.put, List.setIfInBounds_toArray, List.set_cons_zero, List.set_cons_succ]
            refine hTake (i := 2) (v := ?_) rfl (by kernel_rfl) (by kernel_rfl) (by kernel_rfl) (by rfl) ?_ hH ?_
            rotate_left
            · intro W hW; (try dsimp only at hW); go_simp <;> with_reducible rfl
            simp only [Act.put, List.setIfInBounds_toArray, List.set_cons_zero, List.set_cons_succ]
            refine hTake (i := 3) (v := ?_) rfl (by kernel_rfl) (by kernel_rfl) (by kernel_rfl) (by rfl) ?_ hH ?_
            rotate_left
            · intro W hW; (try dsimp only at hW); go_simp <;> with_reducible rfl
            simp only [Act.put, List.setIfInBounds_toArray, List.set_cons_zero, List.set_cons_succ]
            refine hTake (i := 4) (v := ?_) rfl (by kernel_rfl) (by kernel_rfl) (by kernel_rfl) (by rfl) ?_ hH ?_
            rotate_left
            · intro W hW; (try dsimp only at hW); go_simp <;> with_reducible rfl
            simp only [Act.put, List.setIfInBounds_toArray, List.set_cons_zero, List.set_cons_succ]
            refine hTake (i := 5) (v := ?_) rfl (by kernel_rfl) (by kernel_rfl) (by kernel_rfl) (by rfl) ?_ hH ?_
            rotate_left
            · intro W hW; (try dsimp only at hW); go_simp <;> with_reducible rfl
            simp only [Act.put, List.setIfInBounds_toArray, List.set_cons_zero, List.set_cons_succ]
            refine hTake (i := 6) (v := ?_) rfl (by kernel_rfl) (by kernel_rfl) (by kernel_rfl) (by rfl) ?_ hH ?_
            rotate_left
            · intro W hW; (try dsimp only at hW); go_simp <;> with_reducible rfl
            simp only [Act.put, List.setIfInBounds_toArray, List.set_cons_zero, List.set_cons_succ]
            refine hTake (i := 7) (v := ?_) rfl (by kernel_rfl) (by kernel_rfl) (by kernel_rfl) (by rfl) ?_ hH ?_
            rotate_left
            · intro W hW; (try dsimp only at hW); go_simp <;> with_reducible rfl
            simp only [Act.put, List.setIfInBounds_toArray, List.set_cons_zero, List.set_cons_succ]
            refine hTake (i := 8) (v := ?_) rfl (by kernel_rfl) (by kernel_rfl) (by kernel_rfl) (by rfl) ?_ hH ?_
            rotate_left
            · intro W hW; (try dsimp only at hW); go_simp <;> with_reducible rfl
            simp only [Act.put, List.setIfInBounds_toArray, List.set_cons_zero, List.set_cons_succ]
            refine hTake (i := 9) (v := ?_) rfl (by kernel_rfl) (by kernel_rfl) (by kernel_rfl) (by rfl) ?_ hH ?_
            rotate_left
            · intro W hW; (try dsimp only at hW); go_simp <;> with_reducible rfl
            simp only [Act.put, List.setIfInBounds_toArray, List.set_cons_zero, List.set_cons_succ]
            refine wpAnyH_done (by kernel_rfl) ?_ _
            refine NoPanic.normal ?_
            obtain ⟨_, _, hB8⟩ := hH
            go_wp2
            go_roundw
            case rel => exact ⟨k + 1, a', m, c', by omega, by go_num, by rw [HQ.out]; exact hI.below hB8⟩
            case measure => simp [intOf]; omega
        · obtain rfl : k = n1 := by omega
          rw [HL1.out, ← HStep.out] at hI
          go_wp2
          go_roundw
          case rel => exact ⟨i + 1, a', m, c', by omega, by go_num, hI⟩
          case measure => simp [intOf]; omega
    · obtain rfl : i = n2 := by omega
      rw [HL2.out, ← Hst0.out, HstE.out] at hI
      obtain ⟨x0, x1, x2⟩ := row3S hI.cr
      obtain ⟨y0, y1, y2⟩ := row3S hI.co
      have f0 := Joins.unfrozen_of_block hI.cr 0
      have f1 := Joins.unfrozen_of_block hI.cr 1
      have f2 := Joins.unfrozen_of_block hI.cr 2
      have hlo := hI.lo
      have lx := lt_of_cell x0
      have ly := lt_of_cell y0
      have hml : m ≤ 100 := by have := row_lenR hI.own; have := Ch.rowsS_len stE.s; omega
      go_wp2
      refine bodyPost_ret (v := .agg #[.int .i64 0, .bool stE.ok, .slice a' m c']) (by simp [results, Try.results36, go_sem, x0, x1, x2]) rfl ⟨a', m, c', rfl, hml, ?_, ?_⟩
      · exact owns_base (ownsRow_setCell_below (a := ⟨w.heap.size, 2, none⟩) (ownsRow_setCell_below (a := ⟨w.heap.size, 1, none⟩) (ownsRow_setCell_below (a := ⟨w.heap.size, 0, none⟩) hI.own (by simp) _) (by simp) _) (by simp) _) (by omega)
      · exact ((hI.bel.setCell (p := ⟨w.heap.size, 0, none⟩) (Nat.le_refl _) _).setCell (p := ⟨w.heap.size, 1, none⟩) (Nat.le_refl _) _).setCell (p := ⟨w.heap.size, 2, none⟩) (Nat.le_refl _) _
end Go.Proofs.Ytlpncikiaojmiaa

/- ReplayActs of the model, at every argument. -/
namespace Go.Proofs.Ytlpncikiaojmiaa
open Go.RowKit

set_option maxHeartbeats 1000000 in
theorem specReplay_any (a : Option Addr) (n cap : Nat) (base : List Ch.Row) (a1 : Option Addr) (n1 cap1 : Nat) (ts : List Ch.Ac) (a2 : Option Addr) (n2 cap2 : Nat) (cs : List Int) (w : World) (h : CellsAt w a (n * 3) (rcells base)) (h1 : AcAt w a1 n1 ts) (h2 : CellsAt w a2 (n2 * 1) (icells cs)) (hn : n ≤ 1048576) (hn1 : n1 ≤ 1048576) (hn2 : n2 ≤ 1048576) :
    Calls Try.prog 9 #[.slice a n cap, .slice a1 n1 cap1, .slice a2 n2 cap2] w fun e w' => ∃ a' m c', e = .returned (.agg #[.int .i64 (Ch.repR base ts cs).1, .bool (Ch.repR base ts cs).2.1, .slice a' m c']) ∧ m ≤ 100 ∧ w'.ownsRow w.heap.size 64 3 (.slice a' m c') m (rcells (Ch.repR base ts cs).2.2) ∧ Below w.heap.size w w' := by
  have HL := h2.ilen
  have b0 : Below w.heap.size w (w.alloc (.cells #[.int .i64 0, .bool false, .slice none 0 0] 29)) := (Below.refl _ _).alloc (Nat.le_refl _) _
  have IA := fun W hW => specActs_any a1 n1 cap1 ts W hW hn1
  have IB := fun W hW => specBase_any a n cap base W hW hn
  have HF : Hid (Ch.repF base ts cs = if Ch.acsF ts != 0 then Ch.acsF ts else if Ch.baseF base != 0 then Ch.baseF base else if 40 < n2 then 2 else 0) := by show _ = _; rw [HL.out]; rfl
  have HB : Hid (∀ c, Ch.repF base ts cs = c → (c != 0) = true → Ch.repR base ts cs = (c, false, [])) := fun c hc h0 => Ch.repR_bad hc h0
  have HK : Hid (Ch.repF base ts cs = 0 → Ch.repR base ts cs = (0, (Ch.repTo ts cs ⟨Ch.baseTo base base.length, true⟩ cs.length).ok, Ch.rowsS (Ch.repTo ts cs ⟨Ch.baseTo base base.length, true⟩ cs.length).s)) := fun h0 => Ch.repR_ok h0
  have IR := fun W hW hW1 hW2 h0 => l14Replay_any a n cap base a1 n1 cap1 ts a2 n2 cap2 cs W hW hW1 hW2 hn hn1 hn2 h0
  generalize Ch.acsF ts = c at *
  generalize Ch.baseF base = d at *
  cases hc : (c != 0) with
  | true =>
    rw [HB.out c (by rw [HF.out, hc]; rfl) hc]
    go_enter Try.func9, Try.ntmps9
    go_wp2_with fail
    refine (IA _ (h1.below b0)).mono ?_
    rintro e w1 ⟨rfl, b1⟩
    obtain ⟨cA, fA⟩ := bcell b1
    have x0 := cA w.heap.size 0 (by simp)
    have x1 := cA w.heap.size 1 (by simp)
    have x2 := cA w.heap.size 2 (by simp)
    have fx0 := fA w.heap.size 0 (by simp)
    have fx1 := fA w.heap.size 1 (by simp)
    have fx2 := fA w.heap.size 2 (by simp)
    clear cA fA
    simp [go_sem] at x0 x1 x2 fx0 fx1 fx2
    have hz := lt_of_cell x0
    go_wp2
    refine bodyPost_ret (v := .agg #[.int .i64 c, .bool false, .slice none 0 0]) (by simp [results, Try.results9, go_sem, x0, x1, x2]) rfl ⟨none, 0, 0, rfl, by omega, World.ownsRow_nil _ _ _ _, ?_⟩
    exact (((below_box b1).setCell (p := ⟨w.heap.size, 0, none⟩) (Nat.le_refl _) _).setCell (p := ⟨w.heap.size, 1, none⟩) (Nat.le_refl _) _).setCell (p := ⟨w.heap.size, 2, none⟩) (Nat.le_refl _) _
  | false =>
    cases hd : (d != 0) with
    | true =>
      rw [HB.out d (by rw [HF.out, hc, hd]; rfl) hd]
      go_enter Try.func9, Try.ntmps9
      go_wp2_with fail
      refine (IA _ (h1.below b0)).mono ?_
      rintro e w1 ⟨rfl, b1⟩
      go_wp2_with fail
      refine (IB _ (h.below (below_box b1))).mono ?_
      rintro e w2 ⟨rfl, b2⟩
      replace b1 := b1.trans (b2.mono b1.size)
      obtain ⟨cA, fA⟩ := bcell b1
      have x0 := cA w.heap.size 0 (by simp)
      have x1 := cA w.heap.size 1 (by simp)
      have x2 := cA w.heap.size 2 (by simp)
      have fx0 := fA w.heap.size 0 (by simp)
      have fx1 := fA w.heap.size 1 (by simp)
      have fx2 := fA w.heap.size 2 (by simp)
      clear cA fA
      simp [go_sem] at x0 x1 x2 fx0 fx1 fx2
      have hz := lt_of_cell x0
      go_wp2
      refine bodyPost_ret (v := .agg #[.int .i64 d, .bool false, .slice none 0 0]) (by simp [results, Try.results9, go_sem, x0, x1, x2]) rfl ⟨none, 0, 0, rfl, by omega, World.ownsRow_nil _ _ _ _, ?_⟩
      exact (((below_box b1).setCell (p := ⟨w.heap.size, 0, none⟩) (Nat.le_refl _) _).setCell (p := ⟨w.heap.size, 1, none⟩) (Nat.le_refl _) _).setCell (p := ⟨w.heap.size, 2, none⟩) (Nat.le_refl _) _
    | false =>
      by_cases h4 : 40 < n2
      · rw [HB.out 2 (by rw [HF.out, hc, hd]; simp [h4]) (by decide)]
        go_enter Try.func9, Try.ntmps9
        go_wp2_with fail
        refine (IA _ (h1.below b0)).mono ?_
        rintro e w1 ⟨rfl, b1⟩
        go_wp2_with fail
        refine (IB _ (h.below (below_box b1))).mono ?_
        rintro e w2 ⟨rfl, b2⟩
        replace b1 := b1.trans (b2.mono b1.size)
        obtain ⟨cA, fA⟩ := bcell b1
        have x0 := cA w.heap.size 0 (by simp)
        have x1 := cA w.heap.size 1 (by simp)
        have x2 := cA w.heap.size 2 (by simp)
        have fx0 := fA w.heap.size 0 (by simp)
        have fx1 := fA w.heap.size 1 (by simp)
        have fx2 := fA w.heap.size 2 (by simp)
        clear cA fA
        simp [go_sem] at x0 x1 x2 fx0 fx1 fx2
        have hz := lt_of_cell x0
        go_wp2
        refine bodyPost_ret (v := .agg #[.int .i64 2, .bool false, .slice none 0 0]) (by simp [results, Try.results9, go_sem, x0, x1, x2]) rfl ⟨none, 0, 0, rfl, by omega, World.ownsRow_nil _ _ _ _, ?_⟩
        exact (((below_box b1).setCell (p := ⟨w.heap.size, 0, none⟩) (Nat.le_refl _) _).setCell (p := ⟨w.heap.size, 1, none⟩) (Nat.le_refl _) _).setCell (p := ⟨w.heap.size, 2, none⟩) (Nat.le_refl _) _
      · have h0 : Ch.repF base ts cs = 0 := by rw [HF.out, hc, hd]; simp [h4]
        rw [HK.out h0]
        replace IR := fun W hW hW1 hW2 => IR W hW hW1 hW2 h0
        generalize Ch.repTo ts cs ⟨Ch.baseTo base base.length, true⟩ cs.length = st at *
        have h4' : n2 ≤ 40 := by omega
        clear h4 HF HB HK h0
        go_enter Try.func9, Try.ntmps9
        go_wp2_with fail
        refine (IA _ (h1.below b0)).mono ?_
        rintro e w1 ⟨rfl, b1⟩
        go_wp2_with fail
        refine (IB _ (h.below (below_box b1))).mono ?_
        rintro e w2 ⟨rfl, b2⟩
        replace b1 := b1.trans (b2.mono b1.size)
        go_wp2_with fail
        refine (IR _ (h.below (below_box b1)) (h1.below (below_box b1)) (h2.below (below_box b1))).mono ?_
        rintro e w3 ⟨a3, m3, c3, rfl, hm3, o3, b3⟩
        have hz2 := b1.size
        simp at hz2
        replace b1 := b1.trans (b3.mono b1.size)
        obtain ⟨cA, fA⟩ := bcell b1
        have x0 := cA w.heap.size 0 (by simp)
        have x1 := cA w.heap.size 1 (by simp)
        have x2 := cA w.heap.size 2 (by simp)
        have fx0 := fA w.heap.size 0 (by simp)
        have fx1 := fA w.heap.size 1 (by simp)
        have fx2 := fA w.heap.size 2 (by simp)
        clear cA fA
        simp [go_sem] at x0 x1 x2 fx0 fx1 fx2
        have hz := lt_of_cell x0
        go_wp2
        refine bodyPost_ret (v := .agg #[.int .i64 0, .bool st.ok, .slice a3 m3 c3]) (by simp [results, Try.results9, go_sem, x0, x1, x2]) rfl ⟨a3, m3, c3, rfl, hm3, ?_, ?_⟩
        · exact owns_base (ownsRow_setCell_below (a := ⟨w.heap.size, 2, none⟩) (ownsRow_setCell_below (a := ⟨w.heap.size, 1, none⟩) (ownsRow_setCell_below (a := ⟨w.heap.size, 0, none⟩) o3 (by simp; omega) _) (by simp; omega) _) (by simp; omega) _) (by omega)
        · exact (((below_box b1).setCell (p := ⟨w.heap.size, 0, none⟩) (Nat.le_refl _) _).setCell (p := ⟨w.heap.size, 1, none⟩) (Nat.le_refl _) _).setCell (p := ⟨w.heap.size, 2, none⟩) (Nat.le_refl _) _
end Go.Proofs.Ytlpncikiaojmiaa

/- The program's iterator over the acts of one transaction: its contract. -/
namespace Go.Proofs.Ytlpncikiaojmiaa
open Go.RowKit Go.Shelf

attribute [local go_sem] Oper.semAt_some

/-- Acts that are read, their Answers named; behind the last one acts that are none. -/
def AcV (w : World) (a : Option Addr) (n : Nat) (sv : Nat → Value) (ts : List Ch.Ac) : Prop :=
  ts.length = n ∧ (∀ i, i < n → ∃ b off, a = some ⟨b, off, none⟩ ∧ w.cell? ⟨b, off + i * 6, none⟩ = some (.int .i64 (Ch.acAt ts i).tx) ∧ w.cell? ⟨b, off + i * 6 + 1, none⟩ = some (.int .i64 (Ch.acAt ts i).k) ∧ w.cell? ⟨b, off + i * 6 + 2, none⟩ = some (.int .i64 (Ch.acAt ts i).a) ∧ w.cell? ⟨b, off + i * 6 + 3, none⟩ = some (.int .i64 (Ch.acAt ts i).b) ∧ w.cell? ⟨b, off + i * 6 + 4, none⟩ = some (.int .i64 (Ch.acAt ts i).v) ∧ w.cell? ⟨b, off + i * 6 + 5, none⟩ = some (sv i)) ∧
    ∀ i, ∃ an nn cn, sv i = .slice an nn cn ∧ CellsAt w an (nn * 1) (icells (Ch.acAt ts i).an) ∧ nn ≤ 9223372036854775807
theorem AcV.below {w w' : World} {a : Option Addr} {n : Nat} {sv : Nat → Value} {ts : List Ch.Ac} (h : AcV w a n sv ts) (hb : Below w.heap.size w w') : AcV w' a n sv ts := by
  obtain ⟨h1, h2, h3⟩ := h
  refine ⟨h1, fun i hi => ?_, fun i => ?_⟩
  · obtain ⟨b, off, ha, c0, c1, c2, c3, c4, c5⟩ := h2 i hi
    exact ⟨b, off, ha, keep_cell hb c0, keep_cell hb c1, keep_cell hb c2, keep_cell hb c3, keep_cell hb c4, keep_cell hb c5⟩
  · obtain ⟨an, nn, cn, e, c, m⟩ := h3 i
    exact ⟨an, nn, cn, e, c.below hb, m⟩
theorem AcAt.named {w : World} {a : Option Addr} {n : Nat} {ts : List Ch.Ac} (h : AcAt w a n ts) : ∃ sv, AcV w a n sv ts := by
  have key : ∀ i, ∃ x : Value, (i < n → ∃ b off, a = some ⟨b, off, none⟩ ∧ w.cell? ⟨b, off + i * 6, none⟩ = some (.int .i64 (Ch.acAt ts i).tx) ∧ w.cell? ⟨b, off + i * 6 + 1, none⟩ = some (.int .i64 (Ch.acAt ts i).k) ∧ w.cell? ⟨b, off + i * 6 + 2, none⟩ = some (.int .i64 (Ch.acAt ts i).a) ∧ w.cell? ⟨b, off + i * 6 + 3, none⟩ = some (.int .i64 (Ch.acAt ts i).b) ∧ w.cell? ⟨b, off + i * 6 + 4, none⟩ = some (.int .i64 (Ch.acAt ts i).v) ∧ w.cell? ⟨b, off + i * 6 + 5, none⟩ = some x) ∧
      ∃ an nn cn, x = .slice an nn cn ∧ CellsAt w an (nn * 1) (icells (Ch.acAt ts i).an) ∧ nn ≤ 9223372036854775807 := by
    intro i
    by_cases hi : i < n
    · obtain ⟨b, off, an, nn, cn, ha, c0, c1, c2, c3, c4, c5, c6, c7⟩ := h.act hi
      exact ⟨.slice an nn cn, fun _ => ⟨b, off, ha, c0, c1, c2, c3, c4, c5⟩, an, nn, cn, rfl, c6, c7⟩
    · have e : Ch.acAt ts i = Ch.Ac.zero := by
        have := h.1
        simp [Ch.acAt, List.getD, List.getElem?_eq_none (show ts.length ≤ i by omega)]
      rw [e]
      exact ⟨.slice none 0 0, fun h => absurd h hi, none, 0, 0, rfl, ⟨rfl, fun h => absurd h (by simp)⟩, by decide⟩
  exact ⟨fun i => (key i).choose, h.1, fun i hi => (key i).choose_spec.1 hi, fun i => (key i).choose_spec.2⟩

/-- What a round is handed. -/
abbrev encA (ts : List Ch.Ac) (sv : Nat → Value) (i : Nat) : Array Value := #[.agg #[.int .i64 (Ch.acAt ts i).tx, .int .i64 (Ch.acAt ts i).k, .int .i64 (Ch.acAt ts i).a, .int .i64 (Ch.acAt ts i).b, .int .i64 (Ch.acAt ts i).v, sv i]]

/-- What a round that goes on keeps: what lay below, and the iterator's own boxes. -/
def KpA (n₀ Bn Bm : Nat) (W W' : World) : Prop := Below n₀ W W' ∧ (∀ v, W.cell? ⟨Bn, 0, none⟩ = some v → W'.cell? ⟨Bn, 0, none⟩ = some v) ∧ (∀ v, W.cell? ⟨Bm, 0, none⟩ = some v → W'.cell? ⟨Bm, 0, none⟩ = some v)
theorem KpA.t {n₀ Bn Bm : Nat} {A B C : World} (h : KpA n₀ Bn Bm A B) (k : KpA n₀ Bn Bm B C) : KpA n₀ Bn Bm A C := ⟨h.1.trans k.1, fun v hv => k.2.1 v (h.2.1 v hv), fun v hv => k.2.2 v (h.2.2 v hv)⟩
theorem cell_putObjA {W : World} {l b : Nat} {o o' : Obj} {v : Value} (ho : W.heap[l]? = some o) (hc : o.isCells = false) (hv : W.cell? ⟨b, 0, none⟩ = some v) : (W.putObj l o').cell? ⟨b, 0, none⟩ = some v := by
  by_cases e : b = l
  · subst e
    exfalso
    unfold World.cell? at hv
    simp only [ho] at hv
    cases o <;> simp [Obj.isCells] at hc hv
  · have : (W.putObj l o').heap[b]? = W.heap[b]? := World.putObj_heap_other e
    unfold World.cell? at hv ⊢
    simp only [this]
    exact hv
theorem KpA.b {n₀ Bn Bm : Nat} {w : World} (hm : n₀ ≤ w.heap.size) (W : World) (l : Nat) (o o' : Obj) (hl : w.heap.size ≤ l) (ho : W.heap[l]? = some o) (hc : o.isCells = false) (hw : o.isWalk = false) : KpA n₀ Bn Bm W (W.putObj l o') :=
  ⟨belowK_b (w := w) hm W l o o' hl ho hc hw, fun _ hv => cell_putObjA ho hc hv, fun _ hv => cell_putObjA ho hc hv⟩

theorem grown_of_belowA {A B : World} (h : Below A.heap.size A B) : A.grownBy B none := ⟨h.os, h.tape, h.output, h.size, fun k hk _ => h.block k hk⟩

theorem actsOf_any (a : Option Addr) (n cap : Nat) (txn : Int) (w : World) :
    Calls Try.prog 41 #[.slice a n cap, .int .i64 txn] w fun e w' => e = .returned (.func (.func 72) #[] #[.pointer (some ⟨w.heap.size, 0, none⟩), .pointer (some ⟨w.heap.size + 1, 0, none⟩)]) ∧ w' = (w.alloc (.cells #[.slice a n cap] 32)).alloc (.cells #[.int .i64 txn] 2) := by
  have hmf : ∀ (fn : Fn) (first cap : Array Value) (w : World), (Instr.makeFunc fn first cap).run Try.prog w = .ok (.func fn first cap) w := fun _ _ _ _ => rfl
  go_enter Try.func41, Try.ntmps41
  go_wp2
  go_ret
  exact ⟨rfl, rfl⟩

set_option maxRecDepth 100000 in
set_option maxHeartbeats 2000000 in
theorem acts1_in (m l Bn Bm : Nat) (hm : 1 ≤ m) (a : Option Addr) (n cap : Nat) (txn : Int) (sv : Nat → Value) (ts : List Ch.Ac) (w0 : World) (h : AcV w0 a n sv ts) (hn : n ≤ 1048576) (J Jx : List Nat → World → Prop) (B0 : Nat) (hJ : AbidesFrom B0 J)
    (hY : ∀ pre x W, J pre W → pre.length < (Ch.actsOf ts txn n).length → YieldAt Fence.wide (m - 1) Try.prog l (encA ts sv x) W fun e W' =>
      (e = .returned (.bool true) ∧ J (pre ++ [x]) W' ∧ KpA w0.heap.size Bn Bm W W') ∨ (e = .returned (.bool false) ∧ Jx (pre ++ [x]) W'))
    (W : World) (hBn : W.cell? ⟨Bn, 0, none⟩ = some (.slice a n cap)) (hBm : W.cell? ⟨Bm, 0, none⟩ = some (.int .i64 txn)) (hW : Below w0.heap.size w0 W) (h0 : J [] W) :
    CallsIn Fence.wide m Try.prog 72 #[.func (.yield l) #[] #[], .pointer (some ⟨Bn, 0, none⟩), .pointer (some ⟨Bm, 0, none⟩)] W fun e W' => (∃ v, e = .returned v) ∧
      ((∃ ys, ys = Ch.actsOf ts txn n ∧ J ys W') ∨ (∃ pre, True ∧ Jx pre W')) := by
  refine callsIn_of_wp Try.func72 rfl trivial ?_ rfl
  simp only [Try.ntmps72, List.size_toArray, List.length_cons, List.length_nil, Nat.reduceAdd, Nat.reduceSub, Array.replicate_succ, Array.replicate_zero, List.push_toArray, List.append_toArray, List.nil_append, List.cons_append]
  have hbn := lt_of_cell hBn
  have hbm := lt_of_cell hBm
  gi_wp2
  gi_loopw [8] (fun i wr => ∃ k : Nat, k ≤ n ∧ i = .int .i64 (k : Int) ∧ J (Ch.actsOf ts txn k) wr ∧ Below w0.heap.size w0 wr ∧ wr.cell? ⟨Bn, 0, none⟩ = some (.slice a n cap) ∧ wr.cell? ⟨Bm, 0, none⟩ = some (.int .i64 txn))
    (fun i _ => n - (intOf i).toNat)
  case atStart =>
    exact ⟨0, Nat.zero_le _, rfl, h0, hW, hBn, hBm⟩
  case round =>
    clear hbn hbm hBn hBm
    obtain ⟨k, hk, rfl, hJs, hB, hcn, hcm⟩ := hrel
    by_cases hlt : k < n
    · obtain ⟨b, off, rfl, c0, c1, c2, c3, c4, c5⟩ := (h.below hB).2.1 k hlt
      have HN := hid (Ch.actsOf_next ts txn k)
      have HLn : Hid (((Ch.acAt ts k).tx == txn) = true → (Ch.actsOf ts txn k).length < (Ch.actsOf ts txn n).length) := by
        intro he
        have e1 := Ch.actsOf_next ts txn k
        rw [if_pos he] at e1
        have mono : ∀ p q, p ≤ q → (Ch.actsOf ts txn p).length ≤ (Ch.actsOf ts txn q).length := by
          intro p q hpq
          induction hpq with
          | refl => exact Nat.le_refl _
          | step _ ih => rw [Ch.actsOf_next, List.length_append]; omega
        have := mono (k + 1) n hlt
        rw [e1, List.length_append] at this
        simp at this
        omega
      have hbl := lt_of_cell c0
      have hbm := lt_of_cell hcm
      have hYk := fun W hW hl => hY (Ch.actsOf ts txn k) k W hW hl
      dsimp only [encA] at hYk
      have HJ2 := fun (o : Obj) => hJ _ _ _ none hJs (grown_of_belowA ((Below.refl wr.heap.size wr).alloc (Nat.le_refl _) o)) (fun r e => by cases e)
      have hcm' := fun (o : Obj) => keep_cell ((Below.refl wr.heap.size wr).alloc (Nat.le_refl _) o) hcm
      have hcn' := fun (o : Obj) => keep_cell ((Below.refl wr.heap.size wr).alloc (Nat.le_refl _) o) hcn
      have hB' := fun (o : Obj) => hB.alloc hB.size o
      clear hY
      obtain ⟨ai, ni, ci, hsv, _, _⟩ := h.2.2 k
      rw [hsv] at c5 hYk
      generalize Ch.acAt ts k = t at *
      obtain ⟨tx, kd, p, q, v, an⟩ := t
      simp only at c0 c1 c2 c3 c4 HN HLn hYk
      by_cases he : (tx == txn) = true
      · have hlen := HLn.out he
        rw [he] at HN
        have hY2 := hYk _ (HJ2 (.cells #[.int .i64 tx, .int .i64 kd, .int .i64 p, .int .i64 q, .int .i64 v, .slice ai ni ci] 68)) hlen
        obtain ⟨fn, tmps, assign, body, hy, hR⟩ := hY2
        clear hYk
        gi_wp2
        refine hR.mono ?_
        rintro e W3 (⟨rfl, hJ3, hk3⟩ | ⟨rfl, hJx3⟩)
        · have hB3 := (hB' (.cells #[.int .i64 tx, .int .i64 kd, .int .i64 p, .int .i64 q, .int .i64 v, .slice ai ni ci] 68)).trans hk3.1
          have hcn3 := hk3.2.1 _ (hcn' _)
          have hcm3 := hk3.2.2 _ (hcm' _)
          clear hR hy
          gi_wp2
          go_roundw
          case rel => exact ⟨k + 1, by omega, by go_num, by rw [HN.out]; exact hJ3, hB3, hcn3, hcm3⟩
          case measure => simp [intOf]; omega
        · clear hR hy
          gi_wp2
          refine bodyPost_ret (results_none rfl _ _ _) rfl ?_
          exact ⟨⟨_, rfl⟩, .inr ⟨_, trivial, hJx3⟩⟩
      · have he' : (tx == txn) = false := by simpa using he
        rw [he'] at HN
        have hJ3 := HJ2 (.cells #[.int .i64 tx, .int .i64 kd, .int .i64 p, .int .i64 q, .int .i64 v, .slice ai ni ci] 68)
        have hB3 := hB' (.cells #[.int .i64 tx, .int .i64 kd, .int .i64 p, .int .i64 q, .int .i64 v, .slice ai ni ci] 68)
        have hcn3 := hcn' (.cells #[.int .i64 tx, .int .i64 kd, .int .i64 p, .int .i64 q, .int .i64 v, .slice ai ni ci] 68)
        have hcm3 := hcm' (.cells #[.int .i64 tx, .int .i64 kd, .int .i64 p, .int .i64 q, .int .i64 v, .slice ai ni ci] 68)
        clear hYk HJ2 hcn' hcm' hB' HLn he
        gi_wp2
        refine ⟨fun _ h => (by cases h), ?_⟩
        gi_wp2
        go_roundw
        case rel => exact ⟨k + 1, by omega, by go_num, by rw [HN.out]; simpa using hJ3, hB3, hcn3, hcm3⟩
        case measure => simp [intOf]; omega
    · obtain rfl : k = n := by omega
      gi_wp2
      refine bodyPost_end (results_none rfl _ _ _) rfl ?_
      exact ⟨⟨_, rfl⟩, .inl ⟨_, rfl, hJs⟩⟩

/-- THE CONTRACT of the value that actsOf hands back. -/
theorem acts_stops (m Bn Bm : Nat) (hm : 1 ≤ m) (a : Option Addr) (n cap : Nat) (txn : Int) (sv : Nat → Value) (ts : List Ch.Ac) (w0 w : World) (h : AcV w0 a n sv ts) (hn : n ≤ 1048576)
    (hW0 : Below w0.heap.size w0 w) (hc : w.cell? ⟨Bn, 0, none⟩ = some (.slice a n cap)) (hd : w.cell? ⟨Bm, 0, none⟩ = some (.int .i64 txn)) :
    SeqStopsK Fence.wide m Try.prog 72 #[.pointer (some ⟨Bn, 0, none⟩), .pointer (some ⟨Bm, 0, none⟩)] (encA ts sv) (KpA w0.heap.size Bn Bm) (fun ys => ys = Ch.actsOf ts txn n) (fun _ => True) (Ch.actsOf ts txn n).length w := fun l J Jx W hW hJ _ hY h0 =>
  acts1_in m l Bn Bm hm a n cap txn sv ts w0 h hn J Jx _ hJ hY W (keep_cell hW hc) (keep_cell hW hd) (hW0.trans (hW.mono hW0.size)) h0
end Go.Proofs.Ytlpncikiaojmiaa

/- slices.Compact of numbers at a list of one's own. -/
namespace Go.Proofs.Ytlpncikiaojmiaa
open Go.Shelf Go.RowKit Go.Lib Go.Sort

shelf_lay_g SlLaysN.n43 Slgn 43 at Try 63 as Try.compactI

theorem compactI_any (base g n cap : Nat) (zs : List Int) (w : World) (hrow : w.ownsRow base 2 1 (.slice (some ⟨g, 0, none⟩) n cap) n (icells zs)) (hn : n ≤ 1048576) :
    Calls Try.prog 63 #[.slice (some ⟨g, 0, none⟩) n cap] w fun e w' => e = .returned (.slice (some ⟨g, 0, none⟩) (Lib.compact zs).length cap) ∧ w'.ownsRow base 2 1 (.slice (some ⟨g, 0, none⟩) (Lib.compact zs).length cap) (Lib.compact zs).length (icells (Lib.compact zs)) ∧ w.grownBy w' (some g) := by
  obtain ⟨g', cap', hv, _, _, hcap, _, hl, hH⟩ := Lib.holds_of_ownsRow hrow (by simp)
  cases hv
  subst hl
  have hcon := AnyG.slices_Compact_int Try.compactI g 0 cap zs w hH (by omega) hcap
  change Calls Try.prog 63 _ _ _ at hcon
  refine hcon.mono ?_
  rintro e w' ⟨rfl, q, rfl⟩
  have hle := Lib.compact_length_le zs
  have hc := Lib.ownsRow_putRow (q := q) (k := (Lib.compact zs).length) (ys := Lib.compact zs ++ List.replicate (zs.length - (Lib.compact zs).length) 0) hrow (by simp; omega) hle
  rw [List.take_left] at hc
  refine ⟨rfl, hc, ⟨rfl, rfl, rfl, by simp [putRow, mapBlock, Sort.ahead], fun k hk hne => ?_⟩⟩
  have : g ≠ k := fun e => hne (by rw [e])
  simp [putRow, mapBlock, Sort.ahead, Array.getElem?_modify, this]
theorem compactN_any (p : Option Addr) (cap : Nat) (w : World) :
    Calls Try.prog 63 #[.slice p 0 cap] w fun e w' => e = .returned (.slice p 0 cap) ∧ w' = w := by
  have hcon := AnyG.slices_Compact_int_empty Try.compactI p cap w
  change Calls Try.prog 63 _ _ _ at hcon
  exact hcon
end Go.Proofs.Ytlpncikiaojmiaa

/- WritesOf of the program. -/
namespace Go.Proofs.Ytlpncikiaojmiaa
open Go.RowKit Go.Shelf

attribute [local go_sem] Oper.semAt_some

theorem wpListIn_appI {F : Fence} {d : Nat} {ops : Array Oper} {rest : List Oper} {o : Oper} {a : Act} {w : World} {Q : Exit → Act → World → Prop} (s x : Operand)
    (B : Nat) (v : Value) (n : Nat) (rs : List Int) (r : Int) (hn : n ≤ 1048576)
    (ho : o.op = .call { callee := .builtin .append, args := #[s, x], argTypes := #[24, 24] }) (hgd : o.guard = none)
    (hs : a.eval s = v) (hx : ∃ h c t, a.eval x = .slice (some ⟨h, 0, none⟩) 1 c ∧ w.heap[h]? = some (.cells #[.int .i64 r] t (0, 0)))
    (hown : w.ownsRow B 2 1 v n (icells rs)) (hbase : B ≤ w.heap.size)
    (hK : ∀ g' cp' w', w'.ownsRow B 2 1 (.slice (some ⟨g', 0, none⟩) (n + 1) cp') (n + 1) (icells (rs ++ [r])) → Below B w w' → KeepsOthers w w' → wpListIn F d Try.prog ops Q rest (a.put o.dst (.slice (some ⟨g', 0, none⟩) (n + 1) cp')) w') :
    wpListIn F d Try.prog ops Q (o :: rest) a w := by
  obtain ⟨h, c, t, hx, hblk⟩ := hx
  obtain ⟨i0, hi, hz0, hz1, hz2⟩ := info_parts Try.info2
  refine wpListIn_append_own w hgd s x 24 ho B 2 i0 _ 1 8 Try.underlying24 hi hz0 hz1 hz2 rfl (by omega) v n (icells rs) hs hown ⟨h, 0, none⟩ 1 c [.int .i64 r] hx rfl (World.news_of_block hblk) (by simp [Value.oneCell']) (by unfold maxLen; omega) (by omega) hbase ?_
  intro v' w' hown' hgrow _
  rw [show icells rs ++ [.int .i64 r] = icells (rs ++ [r]) by simp [icells]] at hown'
  obtain ⟨g', cap', rfl⟩ := ownsRow_succ hown'
  refine hK g' cap' w' hown' ((Below.refl _ _).grown hgrow hbase (fun k hk => ?_)) (KeepsOthers.of_grownBy hgrow (fun j ob hj hob => ?_))
  · rcases hown.2 with ⟨hv, _⟩ | ⟨g, cap', cur, hv, hb, _⟩
    · subst hv; simp [Value.ownBlock] at hk
    · subst hv; simp [Value.ownBlock] at hk; omega
  · rcases hown.2 with ⟨hv, _⟩ | ⟨g, cap', cur, hv, hb, hh, _⟩
    · subst hv; simp [Value.ownBlock] at hj
    · subst hv
      simp [Value.ownBlock] at hj
      subst hj
      rw [hh] at hob
      cases hob
      rfl

theorem owns_cellsA {W W' : World} {row : Option Nat} {base : Nat} {e : TypeId} {size : Nat} {v : Value} {n : Nat} {xs : List Value} (h : W.ownsRow base e size v n xs) (hg : W.grownBy W' row) (hr : ∀ r, row = some r → ∃ o : Obj, W.heap[r]? = some o ∧ o.isCells = false) : W'.ownsRow base e size v n xs := by
  refine owns_grown h hg (fun g hv hrow => ?_)
  obtain ⟨o, ho, hc⟩ := hr g hrow
  rcases h.2 with ⟨hv', _⟩ | ⟨g', cap', cur, hv', hb, hh, _⟩
  · subst hv'; simp [Value.ownBlock] at hv
  · subst hv'
    simp [Value.ownBlock] at hv
    subst hv
    rw [hh] at ho
    cases ho
    cases hc
theorem block_keptA {W W' : World} {row : Option Nat} {g : Nat} {cs : Array Value} {t : TypeId} (h : W.heap[g]? = some (.cells cs t (0, 0))) (hg : W.grownBy W' row) (hr : ∀ r, row = some r → ∃ o : Obj, W.heap[r]? = some o ∧ o.isCells = false) : W'.heap[g]? = some (.cells cs t (0, 0)) := by
  have hlt : g < W.heap.size := (Array.getElem?_eq_some_iff.1 h).1
  rw [hg.block g hlt (fun e => ?_)]
  · exact h
  · obtain ⟨o, ho, hc⟩ := hr g e.symm
    rw [h] at ho
    cases ho
    cases hc
theorem row2A {W : World} {g : Nat} {t : TypeId} {u0 u1 : Value} (h : W.heap[g]? = some (.cells #[u0, u1] t (0, 0))) : W.cell? ⟨g, 0, none⟩ = some u0 ∧ W.cell? ⟨g, 1, none⟩ = some u1 :=
  ⟨cell_of_row _ _ _ _ _ _ h, cell_of_row _ _ _ _ _ _ h⟩
/-- The cells of an act's box. -/
abbrev acC (ts : List Ch.Ac) (sv : Nat → Value) (i : Nat) : Array Value := #[.int .i64 (Ch.acAt ts i).tx, .int .i64 (Ch.acAt ts i).k, .int .i64 (Ch.acAt ts i).a, .int .i64 (Ch.acAt ts i).b, .int .i64 (Ch.acAt ts i).v, sv i]

set_option maxRecDepth 100000 in
set_option maxHeartbeats 4000000 in
theorem implWrites_ok (a : Option Addr) (n cap : Nat) (txn : Int) (ts : List Ch.Ac) (w : World) (h : AcAt w a n ts) (hn : n ≤ 220) (hF : Ch.acsF ts = 0) (ht : Ch.inB txn 1 999 = true) :
    Calls Try.prog 29 #[.slice a n cap, .int .i64 txn] w fun e w' => ∃ a' m c', e = .returned (.agg #[.int .i64 0, .slice a' m c']) ∧ w'.ownsRow w.heap.size 2 1 (.slice a' m c') m (icells (Ch.wrL ts txn)) ∧ Below w.heap.size w w' := by
  obtain ⟨sv, hV⟩ := h.named
  have HFz := hid (Ch.acsF_zero hF).2
  refine (callsIn_wide (n := 6)).1 ?_
  refine callsIn_of_wp_marks Try.func29 rfl trivial ?_ rfl
  simp only [Try.ntmps29, List.size_toArray, List.length_cons, List.length_nil, Nat.reduceAdd, Nat.reduceSub, Array.replicate_succ, Array.replicate_zero, List.push_toArray, List.append_toArray, List.nil_append, List.cons_append]
  gi_wp2_with fail
  refine ⟨trivial, (callsIn_wide.2 (implActs_any a n cap ts _ (h.below ((Below.refl _ _).alloc (Nat.le_refl _) _)) (by omega))).mono ?_⟩
  rintro e w1 ⟨rfl, b1⟩
  rw [hF]
  have hR1 : w1.heap[w.heap.size]? = some (.cells #[.int .i64 0, .slice none 0 0] 53 (0, 0)) := (b1.block w.heap.size (by simp)).trans (heap_alloc_new w _)
  have hB1 : Below w.heap.size w w1 := below_box b1
  have hsz1 : w.heap.size < w1.heap.size := by have := b1.size; simp at this; omega
  clear b1
  gi_wp2_with fail
  refine ⟨trivial, (callsIn_wide.2 (isTxn_any txn _)).mono ?_⟩
  rintro e w1' ⟨rfl, rfl⟩
  rw [ht]
  gi_wp2_with fail
  refine ⟨trivial, (callsIn_wide.2 (actsOf_any a n cap txn _)).mono ?_⟩
  rintro e w2 ⟨rfl, rfl⟩
  gi_wp2_with fail
  have hV1 : AcV w1' a n sv ts := hV.below hB1
  obtain ⟨HH, hHH⟩ : ∃ HH, w1'.heap.size = HH := ⟨_, rfl⟩
  have hB0 : Below w.heap.size w (((w1'.alloc (.cells #[.slice none 0 0] 24)).alloc (.cells #[.slice a n cap] 32)).alloc (.cells #[.int .i64 txn] 2)) := ((hB1.alloc (by omega) _).alloc (by simp; omega) _).alloc (by simp; omega) _
  have hB0' : Below w1'.heap.size w1' (((w1'.alloc (.cells #[.slice none 0 0] 24)).alloc (.cells #[.slice a n cap] 32)).alloc (.cells #[.int .i64 txn] 2)) := (((Below.refl _ _).alloc (Nat.le_refl _) _).alloc (by simp) _).alloc (by simp; omega) _
  have hK0 : (((w1'.alloc (.cells #[.slice none 0 0] 24)).alloc (.cells #[.slice a n cap] 32)).alloc (.cells #[.int .i64 txn] 2)).heap[w1'.heap.size]? = some (.cells #[.slice none 0 0] 24 (0, 0)) := by
    refine (heap_old' ?_).trans ((heap_old' ?_).trans (heap_new' rfl))
    · simp; omega
    · simp
  have hc1 : (((w1'.alloc (.cells #[.slice none 0 0] 24)).alloc (.cells #[.slice a n cap] 32)).alloc (.cells #[.int .i64 txn] 2)).cell? ⟨w1'.heap.size + 1, 0, none⟩ = some (.slice a n cap) := by
    refine cell_of_row _ _ 0 #[.slice a n cap] 32 (0, 0) ((heap_old' ?_).trans (heap_new' ?_))
    · simp
    · simp
  have hc2 : (((w1'.alloc (.cells #[.slice none 0 0] 24)).alloc (.cells #[.slice a n cap] 32)).alloc (.cells #[.int .i64 txn] 2)).cell? ⟨w1'.heap.size + 1 + 1, 0, none⟩ = some (.int .i64 txn) := by
    refine cell_of_row _ _ 0 #[.int .i64 txn] 2 (0, 0) (heap_new' ?_)
    simp
  have hR0 := (hB0'.block w.heap.size hsz1).trans hR1
  have hs0 : (((w1'.alloc (.cells #[.slice none 0 0] 24)).alloc (.cells #[.slice a n cap] 32)).alloc (.cells #[.int .i64 txn] 2)).heap.size = w1'.heap.size + 3 := by simp
  rw [hHH] at hB0' hK0 hc1 hc2 hs0 hsz1 ⊢
  generalize hW0 : (((w1'.alloc (.cells #[.slice none 0 0] 24)).alloc (.cells #[.slice a n cap] 32)).alloc (.cells #[.int .i64 txn] 2)) = W0 at *
  have hwr := hid (Ch.wr_is HFz.out txn)
  have hll : Hid (n = ts.length) := h.len
  have hal := Ch.actsOf_len ts txn n
  refine wpIn_rangeFunc_ownH rfl (by decide) (gf := 72) (lb := #[.pointer (some ⟨HH + 1, 0, none⟩), .pointer (some ⟨HH + 1 + 1, 0, none⟩)]) rfl trivial (enters_of Try.func72 (by kernel_rfl) rfl)
    (acts_stops 5 (HH + 1) (HH + 1 + 1) (by decide) a n cap txn sv ts w1' W0 hV1 (by omega) (by rw [hHH]; exact hB0') hc1 hc2) KpA.t (KpA.b (by omega)) (Below.refl _ _) (fun _ => rfl)
    (fun pre W => (∃ a' c', W.heap[HH]? = some (.cells #[.slice a' (Ch.keysOf ts pre).length c'] 24 (0, 0)) ∧ W.ownsRow (HH + 3) 2 1 (.slice a' (Ch.keysOf ts pre).length c') (Ch.keysOf ts pre).length (icells (Ch.keysOf ts pre))) ∧ W.heap[w.heap.size]? = some (.cells #[.int .i64 0, .slice none 0 0] 53 (0, 0)) ∧ HH + 3 ≤ W.heap.size ∧ Below w.heap.size w W)
    (fun _ _ _ => False)
    ?hI (fun _ _ _ _ _ hs _ _ => hs)
    ⟨⟨none, 0, hK0, World.ownsRow_nil _ _ _ _⟩, hR0, by omega, hB0⟩
    (fun x a' W => ∃ Bx, HH + 3 ≤ Bx ∧ W.heap[Bx]? = some (.cells (acC ts sv x) 68 (0, 0)) ∧ a' = { tmps := #[.slice a n cap, .int .i64 txn, undef, undef, .pointer (some ⟨w.heap.size, 0, none⟩), .int .i64 0, .pointer (some ⟨HH, 0, none⟩), .pointer (some ⟨Bx, 0, none⟩), .slice a n cap, .int .i64 0, .int .i64 0, .bool false, undef, undef, .int .i64 txn, .bool true, .bool false, undef, .slice a n cap, .int .i64 txn, .func (.func 72) #[] #[.pointer (some ⟨HH + 1, 0, none⟩), .pointer (some ⟨HH + 1 + 1, 0, none⟩)], .agg (acC ts sv x), undef, undef, undef, undef, undef, undef, undef, undef, undef, undef, undef, undef, undef, undef, undef], defers := [] })
    ?hAx ?assign ?body ?done ?stop
  case hI =>
    rintro s A B row ⟨⟨a', c', hh, ho⟩, hr0, hz, hB⟩ hg hr
    exact ⟨⟨a', c', block_keptA hh hg (fun r e => (hr r e).2), owns_cellsA ho hg (fun r e => (hr r e).2)⟩, block_keptA hr0 hg (fun r e => (hr r e).2), Nat.le_trans hz hg.size, hB.grown hg hB.size (fun k e => by have := (hr k e).1; omega)⟩
  case hAx =>
    rintro x a' s A B row ⟨Bx, hle, hh, he⟩ hg hr
    exact ⟨Bx, hle, block_keptA hh hg (fun r e => (hr r e).2), he⟩
  case assign =>
    rintro l pre x W K ⟨⟨a', c', hh, ho⟩, hr0, hz, hB⟩ hK
    obtain ⟨ai, ni, ci, hsv, _, _⟩ := hV.2.2 x
    simp only [encA, hsv]
    gi_wp2
    refine hK _ _ ((KeepsOthers.alloc _ _).from _) ⟨(Below.refl _ _).alloc (by omega) _, fun v hv => keep_cell ((Below.refl _ _).alloc (Nat.le_refl _) _) hv, fun v hv => keep_cell ((Below.refl _ _).alloc (Nat.le_refl _) _) hv⟩ ⟨⟨a', c', (heap_old' (by omega)).trans hh, ho.alloc _⟩, (heap_old' (by omega)).trans hr0, by simp; omega, hB.alloc (by omega) _⟩ ⟨W.heap.size, hz, by rw [acC, hsv]; exact heap_new' rfl, by simp only [acC, hsv]⟩
  case body =>
    rintro l pre x a' W hl ⟨r, hr⟩ ⟨⟨a1, c1, hh, ho⟩, hr0, hz, hB⟩ ⟨Bx, hBx, hX, rfl⟩ hlt
    have hp : (Ch.keysOf ts pre).length ≤ 1048576 := by have := Ch.keysOf_len ts pre; omega
    have HY := hid (Ch.keysOf_yes ts pre x)
    have HN := hid (Ch.keysOf_no ts pre x)
    obtain ⟨ai, ni, ci, hsv, _, _⟩ := hV.2.2 x
    simp only [acC, hsv] at hX ⊢
    have x0 : W.cell? ⟨HH, 0, none⟩ = some (.slice a1 (Ch.keysOf ts pre).length c1) := cell_of_row _ _ _ _ _ _ hh
    have f0 := Joins.unfrozen_of_block hh 0
    have y1 : W.cell? ⟨Bx, 1, none⟩ = some (.int .i64 (Ch.acAt ts x).k) := cell_of_row _ _ _ _ _ _ hX
    have y2 : W.cell? ⟨Bx, 1 + 1, none⟩ = some (.int .i64 (Ch.acAt ts x).a) := cell_of_row _ _ _ _ _ _ hX
    have ne1 : ¬ Bx = HH := by omega
    have ne2 : ¬ HH = Bx := by omega
    have hx1 : HH < W.heap.size := by omega
    have hx2 : Bx < W.heap.size := lt_of_cell y1
    have l13 : HH < HH + 3 := by omega
    cases hw : Ch.isW (Ch.acAt ts x).k with
    | true =>
      have HK := hid (HY.out hw)
      clear HY HN hl hr r hX
      generalize Ch.keysOf ts pre = zs at *
      generalize hpl : zs.length = p at *
      generalize (Ch.acAt ts x).k = kd at *
      generalize (Ch.acAt ts x).a = ky at *
      generalize (Ch.acAt ts x).tx = kt at *
      generalize (Ch.acAt ts x).b = kb at *
      generalize (Ch.acAt ts x).v = kv at *
      gi_wp2_with fail
      refine ⟨trivial, (callsIn_wide.2 (isWrite_any _ _)).mono ?_⟩
      rintro e w' ⟨rfl, hww⟩
      rw [hw, hww]
      clear hww w'
      gi_wp2_with (gi_at_builtin; go_must (refine wpListIn_appI (.tmp 26) (.tmp 30) (HH + 3) (.slice a1 p c1) p zs ky hp ?_ ?_ ?_ ?_ ?_ ?_ ?_; exact rfl; exact rfl; exact rfl; (refine ⟨_, _, 2, rfl, ?_⟩; refine heap_new' ?_; (focus (first | rfl | (simp; done)))); exact ho.alloc _; (focus (simp; omega)); intro g3 c3 w3 own3 b3 k3; have hh3 := (b3.block HH l13).trans ((heap_old' hx1).trans hh); have z0 : w3.cell? ⟨HH, 0, none⟩ = some (.slice a1 p c1) := cell_of_row _ _ _ _ _ _ hh3; have g0 := Joins.unfrozen_of_block hh3 0))
      have hz3 := b3.size
      simp at hz3
      have kA : KeepsOthers W w3 := (KeepsOthers.alloc _ _).trans k3
      have bA : Below w.heap.size W w3 := ((Below.refl w.heap.size W).alloc (by omega) _).trans (b3.mono (by omega))
      have hhF := Joins.block_setCell (i := 0) hh3 (.slice (some ⟨g3, 0, none⟩) (p + 1) c3)
      simp only [List.setIfInBounds_toArray, List.set_cons_zero] at hhF
      have hkeep : ∀ b', HH < b' → b' < HH + 3 → ∀ v, W.cell? ⟨b', 0, none⟩ = some v → (w3.setCell ⟨HH, 0, none⟩ (.slice (some ⟨g3, 0, none⟩) (p + 1) c3)).cell? ⟨b', 0, none⟩ = some v := by
        intro b' h1 h2 v hv
        rw [World.cell?_setCell_other _ _ _ _ (by first | (simp; done) | (simp; omega)), b3.cell (p := ⟨b', 0, none⟩) (by simpa using h2)]
        exact keep_cell ((Below.refl _ _).alloc (Nat.le_refl _) _) hv
      refine ⟨(kA.trans (KeepsOthers.setCell _ _ _)).from _, ⟨?_, hkeep _ (by omega) (by omega), hkeep _ (by omega) (by omega)⟩, ⟨⟨some ⟨g3, 0, none⟩, c3, ?_, ?_⟩, ?_, by simp; omega, (hB.trans bA).setCell (p := ⟨HH, 0, none⟩) (by simp; omega) _⟩⟩
      · have bH : Below HH W w3 := ((Below.refl HH W).alloc (by omega) _).trans (b3.mono (by omega))
        rw [hHH]
        exact bH.setCell (p := ⟨HH, 0, none⟩) (Nat.le_refl _) _
      · rw [HK.out, List.length_append, hpl]
        exact hhF
      · rw [HK.out, List.length_append, hpl]
        exact ownsRow_setCell_below (a := ⟨HH, 0, none⟩) own3 (by simp) _
      · have bX : Below HH W w3 := ((Below.refl HH W).alloc (by omega) _).trans (b3.mono (by omega))
        exact ((bX.setCell (p := ⟨HH, 0, none⟩) (Nat.le_refl _) _).block w.heap.size (by omega)).trans hr0
    | false =>
      have HK := hid (HN.out hw)
      clear HY HN hl hr r hX
      gi_wp2_with fail
      refine ⟨trivial, (callsIn_wide.2 (isWrite_any _ _)).mono ?_⟩
      rintro e w' ⟨rfl, rfl⟩
      rw [hw]
      gi_wp2
      refine ⟨(KeepsOthers.refl _).from _, ⟨Below.refl _ _, fun v hv => hv, fun v hv => hv⟩, ⟨a1, c1, ?_, ?_⟩, hr0, hz, hB⟩
      · rw [HK.out]; exact hh
      · rw [HK.out]; exact ho
  case done =>
    rintro D ys W hD rfl ⟨⟨a1, c1, hh, ho⟩, hr0, hz, hB⟩ hK
    rw [hll.out] at hh ho
    have hp : (Ch.keysOf ts (Ch.actsOf ts txn ts.length)).length ≤ 1048576 := by have := Ch.keysOf_len ts (Ch.actsOf ts txn ts.length); have := Ch.actsOf_len ts txn ts.length; have := hll.out; omega
    generalize Ch.keysOf ts (Ch.actsOf ts txn ts.length) = zs at *
    have HZl : Hid (zs.length = (icells zs).length) := (icells_len zs).symm
    generalize hpl : zs.length = p at *
    have x0 : W.cell? ⟨HH, 0, none⟩ = some (.slice a1 p c1) := cell_of_row _ _ _ _ _ _ hh
    have hneD : w.heap.size ≠ D := by omega
    have hDl : D < W.heap.size := (Array.getElem?_eq_some_iff.1 hK).1
    rcases ho.2 with ⟨hnil, hp0⟩ | ⟨g, cap', cur, hv, hbase, hb, _⟩
    · cases hnil
      obtain rfl : zs = [] := List.eq_nil_of_length_eq_zero hpl
      have HW : Hid ([] = Ch.wrL ts txn) := by
        show _ = _
        rw [← hwr.out, List.mergeSort_nil]
        rfl
      obtain ⟨y0, y1⟩ := row2A hr0
      have f0 := Joins.unfrozen_of_block hr0 0
      have f1 := Joins.unfrozen_of_block hr0 1
      gi_wp2_with fail
      refine ⟨trivial, (callsIn_wide.2 (sortN_any _ _ _)).mono ?_⟩
      rintro e w4 ⟨rfl, hww⟩
      rw [hww]
      clear hww w4
      gi_wp2_with fail
      refine ⟨trivial, (callsIn_wide.2 (compactN_any _ _ _)).mono ?_⟩
      rintro e w4 ⟨rfl, hww⟩
      rw [hww]
      clear hww w4
      rw [HW.out] at ho
      have hF := Joins.block_setCell (i := 1) (Joins.block_setCell (i := 0) hr0 (.int .i64 0)) (.slice none 0 0)
      simp only [List.setIfInBounds_toArray, List.set_cons_zero, List.set_cons_succ] at hF
      have hKF := (KeepsOthers.setCell _ ⟨w.heap.size, 1, none⟩ (.slice none 0 0)).same D _ ((KeepsOthers.setCell W ⟨w.heap.size, 0, none⟩ (.int .i64 0)).same D _ hK rfl) rfl
      have hoF := ownsRow_setCell_below (a := ⟨w.heap.size, 1, none⟩) (ownsRow_setCell_below (a := ⟨w.heap.size, 0, none⟩) ho (by simp; omega) (.int .i64 0)) (by simp; omega) (.slice none 0 0)
      have hBF := (hB.setCell (p := ⟨w.heap.size, 0, none⟩) (Nat.le_refl _) (.int .i64 0)).setCell (p := ⟨w.heap.size, 1, none⟩) (Nat.le_refl _) (.slice none 0 0)
      gi_wp2
      generalize ((W.setCell ⟨w.heap.size, 0, none⟩ (.int .i64 0)).setCell ⟨w.heap.size, 1, none⟩ (.slice none 0 0)) = Wf at *
      obtain ⟨q0, q1⟩ := row2A ((World.putObj_heap_other hneD).trans hF : (Wf.putObj D (.deferred none)).heap[w.heap.size]? = _)
      refine ⟨by simp, .inl ⟨_, _, rfl, run_takeDeferred hKF, ?_⟩⟩
      refine ⟨.agg #[.int .i64 0, .slice none 0 0], ?_, none, 0, 0, rfl, ?_, hBF.trans (belowK_b (w := w) (Nat.le_refl _) Wf D _ _ (by omega) hKF rfl rfl)⟩
      · simp [results, Try.results29, go_sem, q0, q1]
      · exact owns_base (ownsRow_putObj hoF _ hKF rfl) (by omega)
    · cases hv
      have hgl : g < W.heap.size := (Array.getElem?_eq_some_iff.1 hb).1
      have hDg : some D ≠ some g := by
        intro e
        simp only [Option.some.injEq] at e
        subst e
        rw [hb] at hK
        cases hK
      gi_wp2_with fail
      refine ⟨trivial, (callsIn_wide.2 (sortI_any (HH + 3) g p c1 zs W ho hp)).mono ?_⟩
      rintro e w4 ⟨rfl, own4, gr4⟩
      have hh4 := (gr4.block HH (by omega) (by simp; omega)).trans hh
      have hr4 := (gr4.block w.heap.size (by omega) (by simp; omega)).trans hr0
      have hK4 := (gr4.block D hDl hDg).trans hK
      have z4 : w4.cell? ⟨HH, 0, none⟩ = some (.slice (some ⟨g, 0, none⟩) p c1) := cell_of_row _ _ _ _ _ _ hh4
      have hB4 := hB.grown gr4 hB.size (fun j hj => by cases hj; omega)
      have hs4 := gr4.size
      gi_wp2_with fail
      refine ⟨trivial, (callsIn_wide.2 (compactI_any (HH + 3) g p c1 _ w4 own4 hp)).mono ?_⟩
      rintro e w5 ⟨rfl, own5, gr5⟩
      rw [hwr.out] at own5 ⊢
      have hr5 := (gr5.block w.heap.size (by omega) (by simp; omega)).trans hr4
      have hK5 := (gr5.block D (by omega) hDg).trans hK4
      have hB5 := hB4.grown gr5 hB4.size (fun j hj => by cases hj; omega)
      obtain ⟨y0, y1⟩ := row2A hr5
      have f0 := Joins.unfrozen_of_block hr5 0
      have f1 := Joins.unfrozen_of_block hr5 1
      have hs5 := gr5.size
      generalize hwl : (Ch.wrL ts txn).length = m at *
      have hF := Joins.block_setCell (i := 1) (Joins.block_setCell (i := 0) hr5 (.int .i64 0)) (.slice (some ⟨g, 0, none⟩) m c1)
      simp only [List.setIfInBounds_toArray, List.set_cons_zero, List.set_cons_succ] at hF
      have hKF := (KeepsOthers.setCell _ ⟨w.heap.size, 1, none⟩ (.slice (some ⟨g, 0, none⟩) m c1)).same D _ ((KeepsOthers.setCell w5 ⟨w.heap.size, 0, none⟩ (.int .i64 0)).same D _ hK5 rfl) rfl
      have hoF := ownsRow_setCell_below (a := ⟨w.heap.size, 1, none⟩) (ownsRow_setCell_below (a := ⟨w.heap.size, 0, none⟩) own5 (by simp; omega) (.int .i64 0)) (by simp; omega) (.slice (some ⟨g, 0, none⟩) m c1)
      have hBF := (hB5.setCell (p := ⟨w.heap.size, 0, none⟩) (Nat.le_refl _) (.int .i64 0)).setCell (p := ⟨w.heap.size, 1, none⟩) (Nat.le_refl _) (.slice (some ⟨g, 0, none⟩) m c1)
      gi_wp2
      generalize ((w5.setCell ⟨w.heap.size, 0, none⟩ (.int .i64 0)).setCell ⟨w.heap.size, 1, none⟩ (.slice (some ⟨g, 0, none⟩) m c1)) = Wf at *
      obtain ⟨q0, q1⟩ := row2A ((World.putObj_heap_other hneD).trans hF : (Wf.putObj D (.deferred none)).heap[w.heap.size]? = _)
      refine ⟨by simp, .inl ⟨_, _, rfl, run_takeDeferred hKF, ?_⟩⟩
      refine ⟨.agg #[.int .i64 0, .slice (some ⟨g, 0, none⟩) m c1], ?_, (some ⟨g, 0, none⟩), m, c1, rfl, ?_, hBF.trans (belowK_b (w := w) (Nat.le_refl _) Wf D _ _ (by omega) hKF rfl rfl)⟩
      · simp [results, Try.results29, go_sem, q0, q1]
      · exact owns_base (ownsRow_putObj hoF _ hKF rfl) (by omega)
  case stop =>
    rintro D c pre W _ _ h _
    exact h.elim

set_option maxHeartbeats 1000000 in
theorem implWrites_any (a : Option Addr) (n cap : Nat) (txn : Int) (ts : List Ch.Ac) (w : World) (h : AcAt w a n ts) (hn : n ≤ 1048576) :
    Calls Try.prog 29 #[.slice a n cap, .int .i64 txn] w fun e w' => ∃ a' m c', e = .returned (.agg #[.int .i64 (Ch.wrR ts txn).1, .slice a' m c']) ∧ w'.ownsRow w.heap.size 2 1 (.slice a' m c') m (icells (Ch.wrR ts txn).2) ∧ Below w.heap.size w w' := by
  by_cases h0 : Ch.acsF ts = 0
  · cases ht : Ch.inB txn 1 999 with
    | true =>
      rw [Ch.wrR_ok h0 ht]
      exact implWrites_ok a n cap txn ts w h (by have := (Ch.acsF_zero h0).1; have := h.len.out; omega) h0 ht
    | false =>
      rw [Ch.wrR_txn h0 ht]
      have hb0 : Below w.heap.size w (w.alloc (.cells #[.int .i64 0, .slice none 0 0] 53)) := (Below.refl _ _).alloc (Nat.le_refl _) _
      go_enter Try.func29, Try.ntmps29
      go_wp2_with fail
      refine (implActs_any a n cap ts _ (h.below hb0) hn).mono ?_
      rintro e w1 ⟨rfl, b1⟩
      rw [h0]
      obtain ⟨cA, fA⟩ := bcell b1
      have x0 := cA w.heap.size 0 (by simp)
      have x1 := cA w.heap.size 1 (by simp)
      have fx0 := fA w.heap.size 0 (by simp)
      have fx1 := fA w.heap.size 1 (by simp)
      clear cA fA
      simp [go_sem] at x0 x1 fx0 fx1
      have hz := lt_of_cell x0
      go_wp2_with (go_at_call 60; refine (isTxn_any _ _).mono ?_; rintro e w' ⟨rfl, hww⟩; rw [ht, hww]; clear hww w')
      refine bodyPost_ret (v := .agg #[.int .i64 3, .slice none 0 0]) (by simp [results, Try.results29, go_sem, x0, x1]) rfl ⟨none, 0, 0, rfl, World.ownsRow_nil _ _ _ _, ?_⟩
      exact ((below_box b1).setCell (p := ⟨w.heap.size, 0, none⟩) (Nat.le_refl _) _).setCell (p := ⟨w.heap.size, 1, none⟩) (Nat.le_refl _) _
  · obtain ⟨c, HC⟩ : ∃ c, Hid (Ch.acsF ts = c) := ⟨_, rfl⟩
    have hc : (c != 0) = true := by rw [← HC.out]; simpa using h0
    rw [Ch.wrR_bad HC.out hc]
    have hb0 : Below w.heap.size w (w.alloc (.cells #[.int .i64 0, .slice none 0 0] 53)) := (Below.refl _ _).alloc (Nat.le_refl _) _
    clear h0
    go_enter Try.func29, Try.ntmps29
    go_wp2_with fail
    refine (implActs_any a n cap ts _ (h.below hb0) hn).mono ?_
    rintro e w1 ⟨rfl, b1⟩
    rw [HC.out]
    obtain ⟨cA, fA⟩ := bcell b1
    have x0 := cA w.heap.size 0 (by simp)
    have x1 := cA w.heap.size 1 (by simp)
    have fx0 := fA w.heap.size 0 (by simp)
    have fx1 := fA w.heap.size 1 (by simp)
    clear cA fA
    simp [go_sem] at x0 x1 fx0 fx1
    have hz := lt_of_cell x0
    go_wp2
    refine bodyPost_ret (v := .agg #[.int .i64 c, .slice none 0 0]) (by simp [results, Try.results29, go_sem, x0, x1]) rfl ⟨none, 0, 0, rfl, World.ownsRow_nil _ _ _ _, ?_⟩
    exact ((below_box b1).setCell (p := ⟨w.heap.size, 0, none⟩) (Nat.le_refl _) _).setCell (p := ⟨w.heap.size, 1, none⟩) (Nat.le_refl _) _
end Go.Proofs.Ytlpncikiaojmiaa

/- ReplayActs of the program. -/
namespace Go.Proofs.Ytlpncikiaojmiaa
open Go.RowKit Go.Shelf

attribute [local go_sem] Oper.semAt_some

/-- The mark of a range over a function. -/
abbrev mkD (D : Nat) : Deferred := { target := .collected D, args := #[] }
theorem leaves_marks {F : Fence} {n : Nat} {fn : Func} {tmps : Array Value} {R : Ending → World → Prop} {lo : Nat} (Good : World → Prop) (hgood : ∀ W, Good W → LeavesInM F n Try.prog fn tmps R [] .returning W)
    (hput : ∀ W D, Good W → lo ≤ D → W.heap[D]? = some (.deferred (some [])) → Good (W.putObj D (.deferred none))) :
    ∀ (Ds : List Nat) (W : World), Ds.Nodup → (∀ D ∈ Ds, lo ≤ D ∧ W.heap[D]? = some (.deferred (some []))) → Good W → LeavesInM F n Try.prog fn tmps R (Ds.map mkD) .returning W := by
  intro Ds
  induction Ds with
  | nil => intro W _ _ hg; exact hgood W hg
  | cons D Ds ih =>
    intro W hnd hD hg
    obtain ⟨h1, h2⟩ := hD D (by simp)
    rw [List.nodup_cons] at hnd
    refine ⟨by simp, .inl ⟨D, _, rfl, run_takeDeferred h2, ih _ hnd.2 (fun E hE => ?_) (hput W D hg h1 h2)⟩⟩
    obtain ⟨h3, h4⟩ := hD E (by simp [hE])
    refine ⟨h3, ?_⟩
    have hne : E ≠ D := fun e => hnd.1 (e ▸ hE)
    rw [World.putObj_heap_other hne]
    exact h4

/-- What a round of ReplayActs finds. -/
structure RpW (w : World) (p X : Nat) (st : Ch.Rp) (W : World) : Prop where
  sl : Slt W p st.s
  c8 : W.heap[X]? = some (.cells #[.pointer (some ⟨p, 0, none⟩)] 71 (0, 0))
  c9 : W.heap[X + 1]? = some (.cells #[.bool st.ok] 4 (0, 0))
  cr : W.heap[w.heap.size]? = some (.cells #[.int .i64 0, .bool false, .slice none 0 0] 29 (0, 0))
  lp : w.heap.size < p
  lx : p < X
  sz : X + 2 ≤ W.heap.size
  bel : Below w.heap.size w W
theorem RpW.keep {w : World} {p X : Nat} {st : Ch.Rp} {A B : World} (h : RpW w p X st A) {row : Option Nat} (hg : A.grownBy B row) (hr : ∀ r, row = some r → X + 2 ≤ r) : RpW w p X st B := by
  have h1 := h.lp
  have h2 := h.lx
  refine ⟨h.sl.keep hg (fun e => by have := hr p e; omega), block_grownV hg h.c8 (fun e => by have := hr _ e; omega), block_grownV hg h.c9 (fun e => by have := hr _ e; omega), block_grownV hg h.cr (fun e => by have := hr _ e; omega), h1, h2, Nat.le_trans h.sz hg.size, h.bel.grown hg h.bel.size (fun k e => by have := hr k e; omega)⟩
theorem RpW.below {w : World} {p X : Nat} {st : Ch.Rp} {A B : World} (h : RpW w p X st A) (hb : Below A.heap.size A B) : RpW w p X st B := h.keep (gr_belowV hb none) (fun r e => by cases e)
theorem RpW.ok {w : World} {p X : Nat} {st : Ch.Rp} {W : World} (h : RpW w p X st W) (b : Bool) : RpW w p X ⟨st.s, b⟩ (W.setCell ⟨X + 1, 0, none⟩ (.bool b)) := by
  have h1 := h.lp
  have h2 := h.lx
  have hg : W.grownBy (W.setCell ⟨X + 1, 0, none⟩ (.bool b)) (some (X + 1)) := gr_setW
  refine ⟨h.sl.keep hg (by simp; omega), block_grownV hg h.c8 (by simp), ?_, block_grownV hg h.cr (by simp; omega), h1, h2, by simpa using h.sz, h.bel.setCell (p := ⟨X + 1, 0, none⟩) (by simp; omega) _⟩
  have := Joins.block_setCell (i := 0) h.c9 (.bool b)
  simpa using this
theorem RpW.did {w : World} {p X : Nat} {st : Ch.Rp} {S : Ch.Sl} {A B : World} (h : RpW w p X st A) (hg : A.grownBy B (some p)) (hs : Slt B p S) : RpW w p X ⟨S, st.ok⟩ B := by
  have h1 := h.lp
  have h2 := h.lx
  exact ⟨hs, block_grownV hg h.c8 (by simp; omega), block_grownV hg h.c9 (by simp; omega), block_grownV hg h.cr (by simp; omega), h1, h2, Nat.le_trans h.sz hg.size, h.bel.grown hg h.bel.size (fun k e => by cases e; omega)⟩
theorem RpW.drew {w : World} {p X : Nat} {st : Ch.Rp} {W : World} (h : RpW w p X st W) : RpW w p X st W.drew := ⟨h.sl, h.c8, h.c9, h.cr, h.lp, h.lx, h.sz, h.bel.drew⟩
theorem kp_gr {n₀ Bn Bm B : Nat} {W W' : World} {row : Option Nat} (hg : W.grownBy W' row) (hn : n₀ ≤ W.heap.size) (hr : ∀ r, row = some r → n₀ ≤ r ∧ r < B ∧ r ≠ Bn ∧ r ≠ Bm) : KeepsFrom B W W' ∧ KpA n₀ Bn Bm W W' :=
  ⟨KeepsFrom.of_grownBy hg (fun j e => (hr j e).2.1), (Below.refl _ _).grown hg hn (fun k e => (hr k e).1), fun _ hv => grown_cell hg hv (fun e => (hr _ e).2.2.1 rfl), fun _ hv => grown_cell hg hv (fun e => (hr _ e).2.2.2 rfl)⟩
theorem gr_okD {W : World} {X : Nat} {b : Bool} : W.grownBy (W.setCell ⟨X + 1, 0, none⟩ (.bool b)).drew (some (X + 1)) :=
  have g : W.grownBy (W.setCell ⟨X + 1, 0, none⟩ (.bool b)) (some (X + 1)) := gr_setW
  ⟨g.os, g.tape, g.output, g.size, g.block⟩
theorem row3R {W : World} {g : Nat} {t : TypeId} {u0 u1 u2 : Value} (h : W.heap[g]? = some (.cells #[u0, u1, u2] t (0, 0))) :
    W.cell? ⟨g, 0, none⟩ = some u0 ∧ W.cell? ⟨g, 1, none⟩ = some u1 ∧ W.cell? ⟨g, 2, none⟩ = some u2 :=
  ⟨cell_of_row _ _ _ _ _ _ h, cell_of_row _ _ _ _ _ _ h, cell_of_row _ _ _ _ _ _ h⟩
theorem wpIn_region_noPanic {F : Fence} {n : Nat} {P : Program} {id : Nat} {ops : Array Oper} {b : Bool} {Q : Exit → Act → World → Prop} {a : Act} {w : World} (h : (Code.region id ops b).wpIn F n P (NoPanic Q) a w) : (Code.region id ops b).wpIn F n P Q a w :=
  wpIn_mono h (fun e a w hq => NoPanic.imp e a w hq)
theorem row1A {W : World} {g : Nat} {t : TypeId} {u0 : Value} (h : W.heap[g]? = some (.cells #[u0] t (0, 0))) : W.cell? ⟨g, 0, none⟩ = some u0 := cell_of_row _ _ _ _ _ _ h
theorem row6A {W : World} {g : Nat} {t : TypeId} {u0 u1 u2 u3 u4 u5 : Value} (h : W.heap[g]? = some (.cells #[u0, u1, u2, u3, u4, u5] t (0, 0))) :
    W.cell? ⟨g, 1, none⟩ = some u1 ∧ W.cell? ⟨g, 1 + 1, none⟩ = some u2 ∧ W.cell? ⟨g, 1 + 2, none⟩ = some u3 ∧ W.cell? ⟨g, 1 + 3, none⟩ = some u4 ∧ W.cell? ⟨g, 5, none⟩ = some u5 :=
  ⟨cell_of_row _ _ _ _ _ _ h, cell_of_row _ _ _ _ _ _ h, cell_of_row _ _ _ _ _ _ h, cell_of_row _ _ _ _ _ _ h, cell_of_row _ _ _ _ _ _ h⟩

set_option maxRecDepth 100000 in
set_option maxHeartbeats 8000000 in
theorem implReplay_ok (a : Option Addr) (n cap : Nat) (base : List Ch.Row) (a1 : Option Addr) (n1 cap1 : Nat) (ts : List Ch.Ac) (a2 : Option Addr) (n2 cap2 : Nat) (cs : List Int) (w : World) (h : CellsAt w a (n * 3) (rcells base)) (h1 : AcAt w a1 n1 ts) (h2 : CellsAt w a2 (n2 * 1) (icells cs)) (hn : n ≤ 1048576) (hn1 : n1 ≤ 1048576) (hn2 : n2 ≤ 1048576) (hF : Ch.repF base ts cs = 0) :
    Calls Try.prog 13 #[.slice a n cap, .slice a1 n1 cap1, .slice a2 n2 cap2] w fun e w' => ∃ a' m c', e = .returned (.agg #[.int .i64 0, .bool (Ch.repTo ts cs ⟨Ch.baseTo base base.length, true⟩ cs.length).ok, .slice a' m c']) ∧ m ≤ 100 ∧ w'.ownsRow w.heap.size 64 3 (.slice a' m c') m (rcells (Ch.rowsS (Ch.repTo ts cs ⟨Ch.baseTo base base.length, true⟩ cs.length).s)) ∧ Below w.heap.size w w' := by
  obtain ⟨hFa, hFb, hFc⟩ := Ch.repF_zero hF
  obtain ⟨stE, HstE⟩ : ∃ stE, Hid (Ch.repTo ts cs ⟨Ch.baseTo base base.length, true⟩ cs.length = stE) := ⟨_, rfl⟩
  rw [HstE.out]
  obtain ⟨S1, ok1⟩ := stE
  obtain ⟨sv, hV⟩ := h1.named
  have HFz := hid (Ch.acsF_zero hFa).2
  have HL := h.rlen
  have HL1 := h1.len
  have HL2 := h2.ilen
  have hn4 : n2 ≤ 40 := by have := HL2.out; omega
  have hbF : Hid (base.length ≤ 240 ∧ ∀ k, k < base.length → (base.getD k Ch.Row.zero).fault = 0) := (Ch.base_zero hFb).2
  refine (callsIn_wide (n := 6)).1 ?_
  refine callsIn_of_wp_marks Try.func13 rfl trivial ?_ rfl
  simp only [Try.ntmps13, List.size_toArray, List.length_cons, List.length_nil, Nat.reduceAdd, Nat.reduceSub, Array.replicate_succ, Array.replicate_zero, List.push_toArray, List.append_toArray, List.nil_append, List.cons_append]
  have b0 : Below w.heap.size w (w.alloc (.cells #[.int .i64 0, .bool false, .slice none 0 0] 29)) := (Below.refl _ _).alloc (Nat.le_refl _) _
  gi_wp2_with fail
  refine ⟨trivial, (callsIn_wide.2 (replayF_any a n cap base a1 n1 cap1 ts a2 n2 cap2 cs _ (h.below b0) (h1.below b0) (h2.below b0) hn hn1 hn2)).mono ?_⟩
  rintro e w1 ⟨rfl, b1⟩
  rw [hF]
  have hR1 : w1.heap[w.heap.size]? = some (.cells #[.int .i64 0, .bool false, .slice none 0 0] 29 (0, 0)) := (b1.block w.heap.size (by simp)).trans (heap_alloc_new w _)
  have hB1 : Below w.heap.size w w1 := below_box b1
  have hsz1 : w.heap.size < w1.heap.size := by have := b1.size; simp at this; omega
  clear b1 b0
  gi_wp2_with fail
  refine ⟨trivial, (callsIn_wide.2 (slots_any a n cap base _ (h.below hB1) (by have := hbF.out.1; have := HL.out; omega) hbF.out.2)).mono ?_⟩
  rintro e w2 ⟨rfl, hS2, b2⟩
  gi_wp2_with fail
  obtain ⟨X, hX⟩ : ∃ X, w2.heap.size = X := ⟨_, rfl⟩
  obtain ⟨p, hp⟩ : ∃ p, w1.heap.size = p := ⟨_, rfl⟩
  have hsz2 := b2.size
  rw [hX, hp] at hsz2
  rw [hp] at hsz1 hS2 b2
  have hpX : p < X := by have := hS2.lt; omega
  obtain ⟨st0, Hst0⟩ : ∃ st0, Hid ((⟨Ch.baseTo base base.length, true⟩ : Ch.Rp) = st0) := ⟨_, rfl⟩
  have I0 : RpW w p X st0 ((w2.alloc (.cells #[.pointer (some ⟨p, 0, none⟩)] 71)).alloc (.cells #[.bool true] 4)) := by
    rw [← Hst0.out]
    refine ⟨(hS2.alloc _).alloc _, (heap_old' (by simp [hX])).trans (heap_new' hX.symm), heap_new' (by simp [hX]), (heap_old' (by simp; omega)).trans ((heap_old' (by omega)).trans ((b2.block _ (by omega)).trans hR1)), hsz1, hpX, by simp [hX], ?_⟩
    exact ((hB1.trans (b2.mono (by omega))).alloc (by omega) _).alloc (by simp; omega) _
  rw [hp, hX]
  clear hS2 b2 hR1 hB1 hsz2 hX hp
  generalize ((w2.alloc (.cells #[.pointer (some ⟨p, 0, none⟩)] 71)).alloc (.cells #[.bool true] 4)) = V at *
  refine wpIn_loop (fun act W => ∃ (k : Nat) (Ds : List Nat) (u11 u26 u27 u28 u29 u30 u31 u47 : Value), k ≤ n2 ∧ act = { tmps := #[.slice a n cap, .slice a1 n1 cap1, .slice a2 n2 cap2, undef, undef, undef, .pointer (some ⟨w.heap.size, 0, none⟩), .int .i64 0, .pointer (some ⟨X, 0, none⟩), .pointer (some ⟨X + 1, 0, none⟩), undef, u11, undef, .slice a n cap, .slice a1 n1 cap1, .slice a2 n2 cap2, .int .i64 0, .int .i64 0, .bool false, undef, undef, .slice a n cap, .pointer (some ⟨p, 0, none⟩), .slice a2 n2 cap2, .int .i64 n2, .int .i64 (k : Int), u26, u27, u28, u29, u30, u31, undef, undef, undef, undef, undef, undef, undef, undef, undef, undef, undef, undef, undef, undef, undef, u47, undef, undef, undef, undef], defers := Ds.map mkD } ∧ RpW w p X (Ch.repTo ts cs st0 k) W ∧ Ds.Nodup ∧ (∀ D ∈ Ds, X + 2 ≤ D ∧ W.heap[D]? = some (.deferred (some [])))) (fun act _ => n2 - (intOf (act.tmps.getD 25 undef)).toNat) ?first ?rounds
  case first =>
    exact ⟨0, [], undef, undef, undef, undef, undef, undef, undef, undef, Nat.zero_le _, rfl, I0, List.nodup_nil, fun D hD => by simp at hD⟩
  case rounds =>
    rintro act W ⟨k, Ds, u11, u26, u27, u28, u29, u30, u31, u47, hk, rfl, hI, hnd, hDs⟩
    by_cases hlt : k < n2
    · obtain ⟨cb, coff, rfl, hc0⟩ := (h2.below hI.bel).int hlt
      have hcbl := lt_of_cell hc0
      have HStep := hid (Ch.repTo_step ts st0 (cs := cs) (m := k) (by have := HL2.out; omega))
      obtain ⟨st, Hst⟩ : ∃ st, Hid (Ch.repTo ts cs st0 k = st) := ⟨_, rfl⟩
      rw [Hst.out] at hI HStep
      generalize cs.getD k 0 = c at *
      gi_wp2_with fail
      refine ⟨trivial, (callsIn_wide.2 (actsOf_any a1 n1 cap1 c _)).mono ?_⟩
      rintro e w3 ⟨rfl, rfl⟩
      gi_wp2_with fail
      obtain ⟨HH, hHH⟩ : ∃ HH, W.heap.size = HH := ⟨_, rfl⟩
      have hsW := hI.sz
      have bK : Below W.heap.size W ((W.alloc (.cells #[.slice a1 n1 cap1] 32)).alloc (.cells #[.int .i64 c] 2)) := ((Below.refl _ _).alloc (Nat.le_refl _) _).alloc (by simp) _
      have hI3 := hI.below bK
      have hc1 : ((W.alloc (.cells #[.slice a1 n1 cap1] 32)).alloc (.cells #[.int .i64 c] 2)).cell? ⟨HH, 0, none⟩ = some (.slice a1 n1 cap1) := by
        refine cell_of_row _ _ 0 #[.slice a1 n1 cap1] 32 (0, 0) ((heap_old' ?_).trans (heap_new' ?_))
        · simp [hHH]
        · exact hHH.symm
      have hc2 : ((W.alloc (.cells #[.slice a1 n1 cap1] 32)).alloc (.cells #[.int .i64 c] 2)).cell? ⟨HH + 1, 0, none⟩ = some (.int .i64 c) := by
        refine cell_of_row _ _ 0 #[.int .i64 c] 2 (0, 0) (heap_new' ?_)
        simp [hHH]
      have hD3 : ∀ D ∈ Ds, X + 2 ≤ D ∧ D < HH ∧ ((W.alloc (.cells #[.slice a1 n1 cap1] 32)).alloc (.cells #[.int .i64 c] 2)).heap[D]? = some (.deferred (some [])) := fun D hD => by
        have hl : D < W.heap.size := (Array.getElem?_eq_some_iff.1 (hDs D hD).2).1
        exact ⟨(hDs D hD).1, by omega, (bK.block D hl).trans (hDs D hD).2⟩
      have hs3 : ((W.alloc (.cells #[.slice a1 n1 cap1] 32)).alloc (.cells #[.int .i64 c] 2)).heap.size = HH + 2 := by simp [hHH]
      rw [hHH]
      rw [hHH] at hsW
      clear hI hDs bK hc0 hcbl
      generalize ((W.alloc (.cells #[.slice a1 n1 cap1] 32)).alloc (.cells #[.int .i64 c] 2)) = W3 at *
      have hlx := hI3.lx
      have hlp := hI3.lp
      refine wpIn_rangeFunc_ownH rfl (by decide) (gf := 72) (lb := #[.pointer (some ⟨HH, 0, none⟩), .pointer (some ⟨HH + 1, 0, none⟩)]) rfl trivial (enters_of Try.func72 (by kernel_rfl) rfl)
        (acts_stops 5 HH (HH + 1) (by decide) a1 n1 cap1 c sv ts w W3 hV hn1 hI3.bel hc1 hc2) KpA.t (KpA.b (by omega)) (Below.refl _ _) (fun _ => rfl)
        (fun pre W => RpW w p X (Ch.repL ts st pre) W ∧ HH + 2 ≤ W.heap.size ∧ ∀ D ∈ Ds, X + 2 ≤ D ∧ D < HH ∧ W.heap[D]? = some (.deferred (some [])))
        (fun _ _ _ => False)
        ?hI (fun _ _ _ _ _ hs _ _ => hs)
        ⟨hI3, by omega, hD3⟩
        (fun x a' W => ∃ Bx, HH + 2 ≤ Bx ∧ W.heap[Bx]? = some (.cells (acC ts sv x) 68 (0, 0)) ∧ a' = { tmps := #[.slice a n cap, .slice a1 n1 cap1, .slice (some ⟨cb, coff, none⟩) n2 cap2, undef, undef, undef, .pointer (some ⟨w.heap.size, 0, none⟩), .int .i64 0, .pointer (some ⟨X, 0, none⟩), .pointer (some ⟨X + 1, 0, none⟩), undef, .int .i64 c, .pointer (some ⟨Bx, 0, none⟩), .slice a n cap, .slice a1 n1 cap1, .slice (some ⟨cb, coff, none⟩) n2 cap2, .int .i64 0, .int .i64 0, .bool false, undef, undef, .slice a n cap, .pointer (some ⟨p, 0, none⟩), .slice (some ⟨cb, coff, none⟩) n2 cap2, .int .i64 n2, .int .i64 (k : Int), .bool true, .pointer (some ⟨cb, coff + k, none⟩), .int .i64 c, .slice a1 n1 cap1, .int .i64 c, .func (.func 72) #[] #[.pointer (some ⟨HH, 0, none⟩), .pointer (some ⟨HH + 1, 0, none⟩)], .agg (acC ts sv x), undef, undef, undef, undef, undef, undef, undef, undef, undef, undef, undef, undef, undef, undef, u47, undef, undef, undef, undef], defers := [] })
        ?hAx ?assign ?body ?done ?stop
      case hI =>
        rintro s A B row ⟨hA, hz, hd⟩ hg hr
        exact ⟨hA.keep hg (fun r e => by have := (hr r e).1; omega), Nat.le_trans hz hg.size, fun D hD => ⟨(hd D hD).1, (hd D hD).2.1, block_grownV hg (hd D hD).2.2 (fun e => by have := (hr _ e).1; have := (hd D hD).2.1; omega)⟩⟩
      case hAx =>
        rintro x a' s A B row ⟨Bx, hle, hh, he⟩ hg hr
        exact ⟨Bx, hle, block_keptA hh hg (fun r e => (hr r e).2), he⟩
      case assign =>
        rintro l pre x W K ⟨hA, hz, hd⟩ hK
        obtain ⟨ai, ni, ci, hsv, _, _⟩ := hV.2.2 x
        simp only [encA, hsv]
        have bA : Below W.heap.size W (W.alloc (.cells (acC ts sv x) 68)) := (Below.refl _ _).alloc (Nat.le_refl _) _
        have hsz := hA.sz
        rw [acC, hsv] at bA
        gi_wp2
        refine hK _ _ ((KeepsOthers.alloc _ _).from _) ⟨(Below.refl _ _).alloc (by omega) _, fun v hv => keep_cell bA hv, fun v hv => keep_cell bA hv⟩ ⟨hA.below bA, by simp; omega, fun D hD => ⟨(hd D hD).1, (hd D hD).2.1, block_belowV bA (hd D hD).2.2⟩⟩ ⟨W.heap.size, hz, by rw [acC, hsv]; exact heap_new' rfl, by simp only [acC, hsv]⟩
      case body =>
        rintro l pre x a' W hl ⟨r, hr⟩ ⟨hA, hz, hd⟩ ⟨Bx, hBx, hX, rfl⟩ hlt
        have HSn := hid (Ch.repL_snoc ts st pre x)
        have HWk := hid (Ch.write_ok HFz.out x)
        obtain ⟨ai, ni, ci, hsv, hcan, hni⟩ := hV.2.2 x
        simp only [acC, hsv] at hX ⊢
        have hmx : Try.prog.follows .mixedOrders = true := by kernel_rfl
        obtain ⟨st1, Hst1⟩ : ∃ st1, Hid (Ch.repL ts st pre = st1) := ⟨_, rfl⟩
        rw [Hst1.out] at hA HSn
        obtain ⟨S2, ok2⟩ := st1
        obtain ⟨y1, y2, y3, y4, y5⟩ := row6A hX
        have x8 := row1A hA.c8
        have x9 := row1A hA.c9
        have f9 := Joins.unfrozen_of_block hA.c9 0
        have hcan' := hcan.below hA.bel
        have hS := hA.sl
        simp only at x9 hS
        have hx8 := lt_of_cell x8
        have hx9 := lt_of_cell x9
        have hyB := lt_of_cell y1
        generalize Ch.acAt ts x = t at *
        obtain ⟨tx, kd, ka, kb, kv, an⟩ := t
        simp only at y1 y2 y3 y4 y5 hcan hcan' HWk
        clear hlt hl hr r
        cases ok2 with
        | false =>
          gi_wp2
          gi_region_with_o (refine ⟨trivial, ?_⟩)
          all_goals
            have gm : W.grownBy W none := gr_belowV (Below.refl _ _) none
            have hA2 := (hA.ok (false)).drew
            have gm2 : W.grownBy (W.setCell ⟨X + 1, 0, none⟩ (.bool (false))).drew (some (X + 1)) := gr_okD
            have z1 := grown_cell gm2 (y1) (by simp; omega)
            have z2 := grown_cell gm2 (y2) (by simp; omega)
            have z3 := grown_cell gm2 (y3) (by simp; omega)
            have z4 := grown_cell gm2 (y4) (by simp; omega)
            have z8 := row1A hA2.c8
            have lz1 := lt_of_cell z1
            have lz8 := lt_of_cell z8
            have hsm := gm.size
            gi_wp2_with fail
            refine ⟨trivial, (CallsIn.inRound l (callsIn_wide.2 (doP_any p S2 tx kd ka kb kv an _ hA2.sl HWk.out))).mono ?_⟩
            rintro e w5 ⟨rfl, hS5, g5⟩
            have hA5 := hA2.did g5 hS5
            have hs5 := g5.size
            simp at hs5
            gi_wp2
            have k1 := kp_gr (n₀ := w.heap.size) (Bn := HH) (Bm := HH + 1) (B := HH + 2) gm (by omega) (fun r e => by cases e)
            have k2 := kp_gr (n₀ := w.heap.size) (Bn := HH) (Bm := HH + 1) (B := HH + 2) gm2 (by omega) (fun r e => by cases e; omega)
            have k3 := kp_gr (n₀ := w.heap.size) (Bn := HH) (Bm := HH + 1) (B := HH + 2) g5 (by simp; omega) (fun r e => by cases e; omega)
            refine ⟨by rw [hs3]; exact (k1.1.trans k2.1).trans k3.1, (k1.2.t k2.2).t k3.2, ?_, by omega, fun D hD => ⟨(hd D hD).1, (hd D hD).2.1, ?_⟩⟩
            · rw [HSn.out]
              exact hA5
            · have h1 := (hd D hD).1
              exact block_grownV g5 (block_grownV gm2 (block_grownV gm (hd D hD).2.2 (by simp)) (by simp; omega)) (by simp; omega)
        | true =>
          gi_wp2
          gi_region_with_o (refine ⟨trivial, ?_⟩; first | (gi_at_call 43; refine (CallsIn.inRound l (callsIn_wide.2 (tellP_any p S2 kd ka kb kv W.drew hS))).mono ?_; rintro e w3 ⟨a3, m3, c3, rfl, hm3, o3, b3⟩; have b3' : Below W.heap.size W w3 := ⟨b3.os, b3.tape, b3.output, b3.size, b3.block⟩; have hcan3 := hcan'.below b3'; have y53 := keep_cell b3' y5) | (gi_at_call 42; refine (CallsIn.inRound l (callsIn_wide.2 (equalI_any _ _ _ _ _ _ an (Ch.tell kd ka kb kv (Ch.rowsS S2)) _ hcan3 (owns_cells o3) hni (by omega)))).mono ?_; rintro e w4 ⟨rfl, b4⟩; have b4' : Below W.heap.size W w4 := b3'.trans (b4.mono b3'.size); have x94 := keep_cell b4' x9; have f94 := (b4'.frozen (p := ⟨X + 1, 0, none⟩) hx9).trans f9; have hx94 := lt_of_cell x94))
          all_goals
            have gm : W.grownBy w4 none := gr_belowV b4' none
            have hA4 := hA.below b4'
            have hA2 := hA4.ok (an == Ch.tell kd ka kb kv (Ch.rowsS S2))
            have gm2 : w4.grownBy (w4.setCell ⟨X + 1, 0, none⟩ (.bool (an == Ch.tell kd ka kb kv (Ch.rowsS S2)))) (some (X + 1)) := gr_setW
            have z1 := grown_cell gm2 (keep_cell b4' y1) (by simp; omega)
            have z2 := grown_cell gm2 (keep_cell b4' y2) (by simp; omega)
            have z3 := grown_cell gm2 (keep_cell b4' y3) (by simp; omega)
            have z4 := grown_cell gm2 (keep_cell b4' y4) (by simp; omega)
            have z8 := row1A hA2.c8
            have lz1 := lt_of_cell z1
            have lz8 := lt_of_cell z8
            have hsm := gm.size
            gi_wp2_with fail
            refine ⟨trivial, (CallsIn.inRound l (callsIn_wide.2 (doP_any p S2 tx kd ka kb kv an _ hA2.sl HWk.out))).mono ?_⟩
            rintro e w5 ⟨rfl, hS5, g5⟩
            have hA5 := hA2.did g5 hS5
            have hs5 := g5.size
            simp at hs5
            gi_wp2
            have k1 := kp_gr (n₀ := w.heap.size) (Bn := HH) (Bm := HH + 1) (B := HH + 2) gm (by omega) (fun r e => by cases e)
            have k2 := kp_gr (n₀ := w.heap.size) (Bn := HH) (Bm := HH + 1) (B := HH + 2) gm2 (by omega) (fun r e => by cases e; omega)
            have k3 := kp_gr (n₀ := w.heap.size) (Bn := HH) (Bm := HH + 1) (B := HH + 2) g5 (by simp; omega) (fun r e => by cases e; omega)
            refine ⟨by rw [hs3]; exact (k1.1.trans k2.1).trans k3.1, (k1.2.t k2.2).t k3.2, ?_, by omega, fun D hD => ⟨(hd D hD).1, (hd D hD).2.1, ?_⟩⟩
            · rw [HSn.out]
              exact hA5
            · have h1 := (hd D hD).1
              exact block_grownV g5 (block_grownV gm2 (block_grownV gm (hd D hD).2.2 (by simp)) (by simp; omega)) (by simp; omega)
      case done =>
        rintro D ys W hD rfl ⟨hA, hz, hd⟩ hK
        rw [HL1.out, ← HStep.out] at hA
        gi_wp2
        refine ⟨⟨k + 1, D :: Ds, _, _, _, _, _, _, _, _, by omega, rfl, hA, List.nodup_cons.2 ⟨fun hm => by have := (hd D hm).2.1; omega, hnd⟩, fun E hE => ?_⟩, ?_⟩
        · rcases List.mem_cons.1 hE with rfl | hE
          · exact ⟨by omega, hK⟩
          · exact ⟨(hd E hE).1, (hd E hE).2.2⟩
        · simp [intOf]; omega
      case stop =>
        rintro D c pre W _ _ h _
        exact h.elim
    · obtain rfl : k = n2 := by omega
      rw [HL2.out] at hI
      rw [← Hst0.out, HstE.out] at hI
      have x8 := row1A hI.c8
      have x9 := row1A hI.c9
      have hS := hI.sl
      simp only at x9 hS
      have hx8 := lt_of_cell x8
      have hx9 := lt_of_cell x9
      have hlx := hI.lx
      have hlp := hI.lp
      have hsz := hI.sz
      have hmx : Try.prog.follows .mixedOrders = true := by kernel_rfl
      gi_wp2
      refine wpIn_region_noPanic ?_
      gi_region_with_o (refine ⟨trivial, (callsIn_wide.2 (rowsP_any p S1 W.drew hS)).mono ?_⟩; rintro e w3 ⟨a3, m3, c3, rfl, hm3, o3, b3⟩; have b3' : Below W.heap.size W w3 := ⟨b3.os, b3.tape, b3.output, b3.size, b3.block⟩; have hI3 := hI.below b3'; have z9 := row1A hI3.c9; have hR3 := hI3.cr; have fr0 := Joins.unfrozen_of_block hR3 0; have fr1 := Joins.unfrozen_of_block hR3 1; have fr2 := Joins.unfrozen_of_block hR3 2; obtain ⟨q0, q1, q2⟩ := row3R hR3)
      all_goals
        refine NoPanic.normal ?_
        have o3 : w3.ownsRow W.heap.size 64 3 (.slice a3 m3 c3) m3 (rcells (Ch.rowsS S1)) := o3
        have hF3 := Joins.block_setCell (i := 2) (Joins.block_setCell (i := 1) (Joins.block_setCell (i := 0) hR3 (.int .i64 0)) (.bool ok1)) (.slice a3 m3 c3)
        simp only [List.setIfInBounds_toArray, List.set_cons_zero, List.set_cons_succ] at hF3
        have oF3 := ownsRow_setCell_below (a := ⟨w.heap.size, 2, none⟩) (ownsRow_setCell_below (a := ⟨w.heap.size, 1, none⟩) (ownsRow_setCell_below (a := ⟨w.heap.size, 0, none⟩) o3 (by simp; omega) (.int .i64 0)) (by simp; omega) (.bool ok1)) (by simp; omega) (.slice a3 m3 c3)
        have bF3 := ((hI3.bel.setCell (p := ⟨w.heap.size, 0, none⟩) (Nat.le_refl _) (.int .i64 0)).setCell (p := ⟨w.heap.size, 1, none⟩) (Nat.le_refl _) (.bool ok1)).setCell (p := ⟨w.heap.size, 2, none⟩) (Nat.le_refl _) (.slice a3 m3 c3)
        have hDF : ∀ D ∈ Ds, X + 2 ≤ D ∧ (((w3.setCell ⟨w.heap.size, 0, none⟩ (.int .i64 0)).setCell ⟨w.heap.size, 1, none⟩ (.bool ok1)).setCell ⟨w.heap.size, 2, none⟩ (.slice a3 m3 c3)).heap[D]? = some (.deferred (some [])) := fun D hD => by
          have h1 := (hDs D hD).1
          refine ⟨h1, ?_⟩
          rw [Below.heap_setCell _ _ _ _ (by show D ≠ w.heap.size; omega), Below.heap_setCell _ _ _ _ (by show D ≠ w.heap.size; omega), Below.heap_setCell _ _ _ _ (by show D ≠ w.heap.size; omega)]
          exact block_belowV b3' (hDs D hD).2
        gi_wp2
        refine leaves_marks (lo := X + 2) (fun W' => W'.heap[w.heap.size]? = some (.cells #[.int .i64 0, .bool ok1, .slice a3 m3 c3] 29 (0, 0)) ∧ W'.ownsRow (w.heap.size + 1) 64 3 (.slice a3 m3 c3) m3 (rcells (Ch.rowsS S1)) ∧ Below w.heap.size w W') ?_ ?_ Ds _ hnd hDF ⟨hF3, owns_base oF3 (by omega), bF3⟩
        · rintro W' ⟨g1, g2, g3⟩
          obtain ⟨v0, v1, v2⟩ := row3R g1
          refine ⟨.agg #[.int .i64 0, .bool ok1, .slice a3 m3 c3], ?_, a3, m3, c3, rfl, hm3, owns_base g2 (by omega), g3⟩
          simp [results, Try.results13, go_sem, v0, v1, v2]
        · rintro W' D ⟨g1, g2, g3⟩ hD hK
          have hne : w.heap.size ≠ D := by omega
          exact ⟨(World.putObj_heap_other hne).trans g1, ownsRow_putObj g2 _ hK rfl, g3.trans (belowK_b (w := w) (Nat.le_refl _) W' D _ _ (by omega) hK rfl rfl)⟩
end Go.Proofs.Ytlpncikiaojmiaa

/- ReplayActs of the program, at every argument. -/
namespace Go.Proofs.Ytlpncikiaojmiaa
open Go.RowKit

set_option maxHeartbeats 1000000 in
theorem implReplay_any (a : Option Addr) (n cap : Nat) (base : List Ch.Row) (a1 : Option Addr) (n1 cap1 : Nat) (ts : List Ch.Ac) (a2 : Option Addr) (n2 cap2 : Nat) (cs : List Int) (w : World) (h : CellsAt w a (n * 3) (rcells base)) (h1 : AcAt w a1 n1 ts) (h2 : CellsAt w a2 (n2 * 1) (icells cs)) (hn : n ≤ 1048576) (hn1 : n1 ≤ 1048576) (hn2 : n2 ≤ 1048576) :
    Calls Try.prog 13 #[.slice a n cap, .slice a1 n1 cap1, .slice a2 n2 cap2] w fun e w' => ∃ a' m c', e = .returned (.agg #[.int .i64 (Ch.repR base ts cs).1, .bool (Ch.repR base ts cs).2.1, .slice a' m c']) ∧ m ≤ 100 ∧ w'.ownsRow w.heap.size 64 3 (.slice a' m c') m (rcells (Ch.repR base ts cs).2.2) ∧ Below w.heap.size w w' := by
  by_cases h0 : Ch.repF base ts cs = 0
  · rw [Ch.repR_ok h0]
    exact implReplay_ok a n cap base a1 n1 cap1 ts a2 n2 cap2 cs w h h1 h2 hn hn1 hn2 h0
  · obtain ⟨c, HC⟩ : ∃ c, Hid (Ch.repF base ts cs = c) := ⟨_, rfl⟩
    have hc : (c != 0) = true := by rw [← HC.out]; simpa using h0
    rw [Ch.repR_bad HC.out hc]
    have b0 : Below w.heap.size w (w.alloc (.cells #[.int .i64 0, .bool false, .slice none 0 0] 29)) := (Below.refl _ _).alloc (Nat.le_refl _) _
    clear h0
    go_enter Try.func13, Try.ntmps13
    go_wp2_with fail
    refine (replayF_any a n cap base a1 n1 cap1 ts a2 n2 cap2 cs _ (h.below b0) (h1.below b0) (h2.below b0) hn hn1 hn2).mono ?_
    rintro e w1 ⟨rfl, b1⟩
    rw [HC.out]
    obtain ⟨cA, fA⟩ := bcell b1
    have x0 := cA w.heap.size 0 (by simp)
    have x1 := cA w.heap.size 1 (by simp)
    have x2 := cA w.heap.size 2 (by simp)
    have fx0 := fA w.heap.size 0 (by simp)
    have fx1 := fA w.heap.size 1 (by simp)
    have fx2 := fA w.heap.size 2 (by simp)
    clear cA fA
    simp [go_sem] at x0 x1 x2 fx0 fx1 fx2
    have hz := lt_of_cell x0
    go_wp2
    refine bodyPost_ret (v := .agg #[.int .i64 c, .bool false, .slice none 0 0]) (by simp [results, Try.results13, go_sem, x0, x1, x2]) rfl ⟨none, 0, 0, rfl, by omega, World.ownsRow_nil _ _ _ _, ?_⟩
    exact (((below_box b1).setCell (p := ⟨w.heap.size, 0, none⟩) (Nat.le_refl _) _).setCell (p := ⟨w.heap.size, 1, none⟩) (Nat.le_refl _) _).setCell (p := ⟨w.heap.size, 2, none⟩) (Nat.le_refl _) _
end Go.Proofs.Ytlpncikiaojmiaa

