/- Several texts in one: AskA, AskB, JoiW, JoiI, AskC, AskD. -/
import Derived.Test.YtjagobcogkdfhaaInsK
import Derived.Test.YtjagobcogkdfhaaLkI
import Derived.Test.YtjagobcogkdfhaaAskM
import Derived.Test.YtjagobcogkdfhaaModS
import Derived.Test.YtjagobcogkdfhaaPackA
import Derived.ChangeKeysEq


/- A new lock among locks of one's own: withLockOf. -/
namespace Go.Proofs.Ytjagobcogkdfhaa
open Go.RowKit

theorem lcells_take {ls : List Ch.Lock} {vs : List (Value × Value)} (h : ls.length = vs.length) {k : Nat} (hk : k ≤ ls.length) : lcells (ls.take k) (vs.take k) = (lcells ls vs).take (k * 3) ∧ lcells (ls.drop k) (vs.drop k) = (lcells ls vs).drop (k * 3) := by
  have ht : (ls.take k).length = (vs.take k).length := by simp [h]
  have e : lcells ls vs = lcells (ls.take k) (vs.take k) ++ lcells (ls.drop k) (vs.drop k) := by
    rw [← lcells_append ht, List.take_append_drop, List.take_append_drop]
  have hl : (lcells (ls.take k) (vs.take k)).length = k * 3 := by rw [lcells_len ht]; simp; omega
  rw [e]
  exact ⟨(List.take_left' hl).symm, (List.drop_left' hl).symm⟩
theorem ins_get {vs : List (Value × Value)} {k : Nat} (hk : k ≤ vs.length) (p : Value × Value) {i : Nat} {q : Value × Value} (hq : (vs.take k ++ [p] ++ vs.drop k)[i]? = some q) : (i < k ∧ vs[i]? = some q) ∨ (i = k ∧ q = p) ∨ (k < i ∧ vs[i - 1]? = some q) := by
  have hlen : (vs.take k).length = k := by simp; omega
  rcases Nat.lt_trichotomy i k with h | h | h
  · rw [List.append_assoc, List.getElem?_append_left (by omega), List.getElem?_take_of_lt h] at hq
    exact .inl ⟨h, hq⟩
  · subst h
    rw [List.append_assoc, List.getElem?_append_right (by omega), hlen] at hq
    simp at hq
    exact .inr (.inl ⟨rfl, hq.symm⟩)
  · rw [List.getElem?_append_right (by simp; omega)] at hq
    simp only [List.length_append, hlen, List.length_singleton, List.getElem?_drop] at hq
    have : k + (i - (k + 1)) = i - 1 := by omega
    rw [this] at hq
    exact .inr (.inr ⟨h, hq⟩)
def nilP : Value × Value := (.slice none 0 0, .slice none 0 0)
theorem ins_blks (vs : List (Value × Value)) (k : Nat) : (vs.take k ++ [nilP] ++ vs.drop k).flatMap blks = vs.flatMap blks := by
  have e : vs.flatMap blks = (vs.take k).flatMap blks ++ (vs.drop k).flatMap blks := by rw [← List.flatMap_append, List.take_append_drop]
  rw [e, List.flatMap_append, List.flatMap_append]
  simp [nilP, blks, Value.ownBlock]
/-- One more lock that nobody holds, at a place among the others. -/
theorem OwnK.ins {T : TypeId} {w w' : World} {B n : Nat} {v : Value} {ls : List Ch.Lock} {vs : List (Value × Value)} (h : OwnK T w B v n ls vs) {k : Nat} (hk : k ≤ n) {r : Int} {a' : Option Addr} {c' : Nat}
    (own : w'.ownsRow B T 3 (.slice a' (n + 1) c') (n + 1) ((lcells ls vs).take (k * 3) ++ [.int .i64 r, .slice none 0 0, .slice none 0 0] ++ (lcells ls vs).drop (k * 3))) (gr : w.grownBy w' v.ownBlock) (hat : ∀ g, (Value.slice a' (n + 1) c').ownBlock = some g → v.ownBlock = some g ∨ w.heap.size ≤ g) :
    OwnK T w' B (.slice a' (n + 1) c') (n + 1) (ls.take k ++ [⟨r, [], []⟩] ++ ls.drop k) (vs.take k ++ [nilP] ++ vs.drop k) := by
  have hl : ls.length = vs.length := by rw [h.len, h.vlen]
  have hk1 : k ≤ ls.length := by rw [h.len]; exact hk
  have hk2 : k ≤ vs.length := by rw [h.vlen]; exact hk
  have hsub : ∀ (i : Nat) (q : Value × Value), vs[i]? = some q → ∀ g ∈ blks q, v.ownBlock ≠ some g := fun i q hq g hg e => apart_row h.apart hq e hg
  refine ⟨by simp [h.len]; omega, by simp [h.vlen]; omega, ?_, fun i q hq => ?_, fun i q hq => ?_, ?_⟩
  · rw [lcells_append (by simp [hl]), lcells_append (by simp [hl]), (lcells_take hl hk1).1, (lcells_take hl hk1).2]
    exact own
  · rw [Ch.lk_ins _ _ _ _ hk1]
    rcases ins_get hk2 _ hq with ⟨hi, hq'⟩ | ⟨rfl, rfl⟩ | ⟨hi, hq'⟩
    · rw [if_pos hi]; exact owns_grown (h.hs i q hq') gr fun g hg e => hsub i q hq' g (by simp [blks, hg]) e
    · rw [if_neg (by omega), if_pos rfl]; exact World.ownsRow_nil _ _ _ _
    · rw [if_neg (by omega), if_neg (by omega)]; exact owns_grown (h.hs _ q hq') gr fun g hg e => hsub _ q hq' g (by simp [blks, hg]) e
  · rw [Ch.lk_ins _ _ _ _ hk1]
    rcases ins_get hk2 _ hq with ⟨hi, hq'⟩ | ⟨rfl, rfl⟩ | ⟨hi, hq'⟩
    · rw [if_pos hi]; exact owns_grown (h.qs i q hq') gr fun g hg e => hsub i q hq' g (by simp [blks, hg]) e
    · rw [if_neg (by omega), if_pos rfl]; exact World.ownsRow_nil _ _ _ _
    · rw [if_neg (by omega), if_neg (by omega)]; exact owns_grown (h.qs _ q hq') gr fun g hg e => hsub _ q hq' g (by simp [blks, hg]) e
  · rw [ins_blks]
    exact apart_v h.apart hat fun i q hq g hg => (h.bd hq hg).2
theorem lcells_one' {ls : List Ch.Lock} {vs : List (Value × Value)} (h : ∀ (i : Nat) (q : Value × Value), vs[i]? = some q → q.1.oneCell' = true ∧ q.2.oneCell' = true) : ∀ u ∈ lcells ls vs, u.oneCell' = true := by
  intro u hu
  unfold lcells at hu
  rw [List.mem_flatMap] at hu
  obtain ⟨⟨l, x, y⟩, hz, hu⟩ := hu
  have hm := (List.of_mem_zip hz).2
  obtain ⟨i, hi⟩ := List.getElem?_of_mem hm
  have := h i _ hi
  simp at hu
  rcases hu with rfl | rfl | rfl
  · rfl
  · exact this.1
  · exact this.2
theorem OwnK.one' {T : TypeId} {w : World} {B n : Nat} {v : Value} {ls : List Ch.Lock} {vs : List (Value × Value)} (h : OwnK T w B v n ls vs) : ∀ u ∈ lcells ls vs, u.oneCell' = true := by
  refine lcells_one' fun i q hq => ?_
  obtain ⟨a, c, e⟩ := owns_shape (h.hs i q hq)
  obtain ⟨a2, c2, e2⟩ := owns_shape (h.qs i q hq)
  rw [e, e2]
  exact ⟨rfl, rfl⟩

end Go.Proofs.Ytjagobcogkdfhaa


/- enter: one more in a lock's queue. -/
namespace Go.Proofs.Ytjagobcogkdfhaa
open Go.RowKit

theorem hcells_drop (hs : List Ch.Hold) (k : Nat) : hcells (hs.drop k) = (hcells hs).drop (k * 2) := by
  rcases Nat.lt_or_ge hs.length k with h | h
  · rw [List.drop_of_length_le (by omega), List.drop_of_length_le (by rw [hcells_len]; omega)]; rfl
  · have e : hcells hs = hcells (hs.take k) ++ hcells (hs.drop k) := by rw [← hcells_append, List.take_append_drop]
    have hl : (hcells (hs.take k)).length = k * 2 := by rw [hcells_len]; simp; omega
    rw [e]
    exact (List.drop_left' hl).symm
theorem Ch.lk_same (ls : List Ch.Lock) (k : Nat) : ls.set k (Ch.lkAt ls k) = ls := by
  rcases Nat.lt_or_ge k ls.length with h | h
  · unfold Ch.lkAt
    rw [List.getD_eq_getElem?_getD, List.getElem?_eq_getElem h]
    simp
  · exact List.set_eq_of_length_le h
theorem Ch.enter_full {l : Ch.Lock} {k : Nat} {h : Ch.Hold} (hq : 20 ≤ l.qs.length) : Ch.enterL l k h = (false, 2, l) := by unfold Ch.enterL; rw [if_pos hq]
theorem Ch.enter_room {l : Ch.Lock} {k : Nat} {h : Ch.Hold} (hq : ¬ 20 ≤ l.qs.length) : Ch.enterL l k h = (false, 0, ⟨l.r, l.hs, l.qs.take k ++ [h] ++ l.qs.drop k⟩) := by unfold Ch.enterL; rw [if_neg hq]

end Go.Proofs.Ytjagobcogkdfhaa


/- JoinModes of the program: the set of those that cover both. -/
namespace Go.Proofs.Ytjagobcogkdfhaa
open Go.RowKit

/-- k covers both. -/
def Ch.both (a b : Int) (k : Nat) : Bool := Ch.tab Ch.covT k a && Ch.tab Ch.covT k b

theorem neqSet (x0 x1 x2 x3 x4 x5 y0 y1 y2 y3 y4 y5 : Bool) (w : World) :
    (binOp .neq 218 (.agg #[.bool x0, .bool x1, .bool x2, .bool x3, .bool x4, .bool x5]) (.agg #[.bool y0, .bool y1, .bool y2, .bool y3, .bool y4, .bool y5])).run Try.prog w
      = .ok (.bool (!(x0 == y0 && x1 == y1 && x2 == y2 && x3 == y3 && x4 == y4 && x5 == y5))) w := by
  have hu : Try.prog.underlying 218 = some (.array 6 4) := by kernel_rfl
  have hc : Try.prog.cellsOf 4 = 1 := by kernel_rfl
  obtain ⟨i, hi⟩ : ∃ i, Try.prog.info? 4 = some i := Option.isSome_iff_exists.1 (by kernel_rfl)
  have u4 := Try.underlying4
  have a4 := Try.isAgg4
  have z4 := Try.sizeOf4
  rw [run_neq_struct, show (10000 : Nat) = 9999 + 1 from rfl, run_equalIn_array w 9999 _ _ hu hi, hc]
  simp only [List.range, List.range.loop, Op.eqItems]
  clear hi hc hu
  go_simp
  cases x0 <;> cases y0 <;> (try rfl) <;> cases x1 <;> cases y1 <;> (try rfl) <;> cases x2 <;> cases y2 <;> (try rfl) <;> cases x3 <;> cases y3 <;> (try rfl) <;> cases x4 <;> cases y4 <;> (try rfl) <;> cases x5 <;> cases y5 <;> rfl

theorem covAt {a b : Int} (ha : Ch.isM a = true) (hb : Ch.isM b = true) (w : World) :
    Calls Try.prog 217 #[.int .i64 a, .int .i64 b] w fun e w' => e = .returned (.bool (Ch.tab Ch.covT a b)) ∧ Below w.heap.size w w' := by
  have := implCov_any a b w
  rw [ha, hb] at this
  exact this

theorem isM_nat {k : Nat} (h : k < 6) : Ch.isM k = true := by simp [Ch.isM, Ch.inB]; omega

/-- The cells of a set that is filled up to k. -/
def SetAt (w : World) (g : Nat) (a b : Int) (k : Nat) : Prop :=
  ∀ i : Nat, i < 6 → w.cell? ⟨g, i, none⟩ = some (.bool (decide (i < k) && Ch.both a b i)) ∧ w.frozen? ⟨g, i, none⟩ = false

theorem SetAt.below {w w' : World} {g : Nat} {a b : Int} {k : Nat} (h : SetAt w g a b k) (hb : Below w.heap.size w w') : SetAt w' g a b k := fun i hi =>
  ⟨keep_cell hb (h i hi).1, ((bcell hb).2 g i (lt_of_cell (h i hi).1)).trans (h i hi).2⟩
theorem SetAt.set {w : World} {g : Nat} {a b : Int} {k : Nat} (h : SetAt w g a b k) (hk : k < 6) : SetAt (w.setCell ⟨g, k, none⟩ (.bool (Ch.both a b k))) g a b (k + 1) := fun i hi => by
  refine ⟨?_, by rw [World.frozen?_setCell]; exact (h i hi).2⟩
  by_cases hik : k = i
  · subst hik
    rw [World.cell?_setCell_same _ _ _ (h k hk).1]
    simp
  · rw [World.cell?_setCell_other _ _ _ _ (by simp), (h i hi).1]
    have : decide (i < k + 1) = decide (i < k) := by
      by_cases h1 : i < k
      · simp [h1, show i < k + 1 by omega]
      · simp [h1, show ¬ i < k + 1 by omega]
    rw [this]
theorem SetAt.far {w : World} {g g' j : Nat} {a b : Int} {k : Nat} {v : Value} (h : SetAt w g a b k) (hne : g' ≠ g) : SetAt (w.setCell ⟨g', j, none⟩ v) g a b k := fun i hi => by
  refine ⟨?_, by rw [World.frozen?_setCell]; exact (h i hi).2⟩
  rw [World.cell?_setCell_other _ _ _ _ (by simp)]
  exact (h i hi).1

theorem SetAt.full {w : World} {g : Nat} {a b : Int} (h : SetAt w g a b 6) : w.cell? ⟨g, 0, none⟩ = some (.bool (Ch.both a b 0)) ∧ w.cell? ⟨g, 1, none⟩ = some (.bool (Ch.both a b 1)) ∧ w.cell? ⟨g, 2, none⟩ = some (.bool (Ch.both a b 2)) ∧ w.cell? ⟨g, 3, none⟩ = some (.bool (Ch.both a b 3)) ∧ w.cell? ⟨g, 4, none⟩ = some (.bool (Ch.both a b 4)) ∧ w.cell? ⟨g, 5, none⟩ = some (.bool (Ch.both a b 5)) :=
  ⟨(h 0 (by omega)).1, (h 1 (by omega)).1, (h 2 (by omega)).1, (h 3 (by omega)).1, (h 4 (by omega)).1, (h 5 (by omega)).1⟩

end Go.Proofs.Ytjagobcogkdfhaa


/- JoinModes of the program. -/
namespace Go.Proofs.Ytjagobcogkdfhaa
open Go.RowKit

/-- Two sets are the same. -/
def Ch.sameSet (a b c d : Int) : Bool := Ch.both a b 0 == Ch.both c d 0 && Ch.both a b 1 == Ch.both c d 1 && Ch.both a b 2 == Ch.both c d 2 && Ch.both a b 3 == Ch.both c d 3 && Ch.both a b 4 == Ch.both c d 4 && Ch.both a b 5 == Ch.both c d 5
theorem Ch.join_set {a b m : Int} (ha : Ch.isM a = true) (hb : Ch.isM b = true) (hm : Ch.isM m = true) : Ch.sameSet m m a b = decide (m = Ch.join a b) := by
  rcases Ch.mode_cases ha with rfl | rfl | rfl | rfl | rfl | rfl
  all_goals rcases Ch.mode_cases hb with rfl | rfl | rfl | rfl | rfl | rfl
  all_goals rcases Ch.mode_cases hm with rfl | rfl | rfl | rfl | rfl | rfl
  all_goals rfl
theorem Ch.join_isM {a b : Int} (ha : Ch.isM a = true) (hb : Ch.isM b = true) : Ch.isM (Ch.join a b) = true := by
  rcases Ch.mode_cases ha with rfl | rfl | rfl | rfl | rfl | rfl
  all_goals rcases Ch.mode_cases hb with rfl | rfl | rfl | rfl | rfl | rfl
  all_goals rfl
def joinR (a b : Int) : Value := if Ch.isM a && Ch.isM b then .agg #[.int .i64 0, .int .i64 (Ch.join a b)] else .agg #[.int .i64 3, .int .i64 0]

end Go.Proofs.Ytjagobcogkdfhaa


/- ask: a lock asked for, of the program. -/
namespace Go.Proofs.Ytjagobcogkdfhaa
open Go.RowKit

theorem Ch.ask_cov {l : Ch.Lock} {t m : Int} (h : Ch.covers (Ch.modeH l.hs t) m = true) : Ch.askOne l t m = (true, 0, l) := by unfold Ch.askOne; rw [if_pos h]
theorem Ch.ask_end {l : Ch.Lock} {t m : Int} (h : Ch.covers (Ch.modeH l.hs t) m = false) (h2 : (Ch.modeH l.hs t == 0 && (!Ch.fitsH l.hs t (Ch.join (Ch.modeH l.hs t) m) || decide (0 < l.qs.length))) = true) : Ch.askOne l t m = Ch.enterL l l.qs.length ⟨t, Ch.join (Ch.modeH l.hs t) m⟩ := by unfold Ch.askOne; rw [if_neg (by simp [h]), if_pos h2]
theorem Ch.ask_conv {l : Ch.Lock} {t m : Int} (h : Ch.covers (Ch.modeH l.hs t) m = false) (h2 : (Ch.modeH l.hs t == 0 && (!Ch.fitsH l.hs t (Ch.join (Ch.modeH l.hs t) m) || decide (0 < l.qs.length))) = false) (h3 : Ch.fitsH l.hs t (Ch.join (Ch.modeH l.hs t) m) = false) : Ch.askOne l t m = Ch.enterL l (Ch.convH l.hs l.qs) ⟨t, Ch.join (Ch.modeH l.hs t) m⟩ := by unfold Ch.askOne; rw [if_neg (by simp [h]), if_neg (by simp [h2]), if_pos (by simp [h3])]
theorem Ch.ask_full {l : Ch.Lock} {t m : Int} (h : Ch.covers (Ch.modeH l.hs t) m = false) (h2 : (Ch.modeH l.hs t == 0 && (!Ch.fitsH l.hs t (Ch.join (Ch.modeH l.hs t) m) || decide (0 < l.qs.length))) = false) (h3 : Ch.fitsH l.hs t (Ch.join (Ch.modeH l.hs t) m) = true) (h4 : (Ch.hasH l.hs t || decide (l.hs.length < 20)) = false) : Ch.askOne l t m = (false, 2, l) := by unfold Ch.askOne; rw [if_neg (by simp [h]), if_neg (by simp [h2]), if_neg (by simp [h3]), if_pos (by simp [h4])]
theorem Ch.ask_put {l : Ch.Lock} {t m : Int} (h : Ch.covers (Ch.modeH l.hs t) m = false) (h2 : (Ch.modeH l.hs t == 0 && (!Ch.fitsH l.hs t (Ch.join (Ch.modeH l.hs t) m) || decide (0 < l.qs.length))) = false) (h3 : Ch.fitsH l.hs t (Ch.join (Ch.modeH l.hs t) m) = true) (h4 : (Ch.hasH l.hs t || decide (l.hs.length < 20)) = true) : Ch.askOne l t m = (true, 0, ⟨l.r, Ch.putH l.hs ⟨t, Ch.join (Ch.modeH l.hs t) m⟩, l.qs⟩) := by unfold Ch.askOne; rw [if_neg (by simp [h]), if_neg (by simp [h2]), if_neg (by simp [h3]), if_neg (by simp [h4])]
theorem field_intK (j : Int) (W : World) : (Instr.field 43 (.agg #[.int .i64 0, .int .i64 j]) 1).run Try.prog W = .ok (.int .i64 j) W := by kernel_rfl
theorem Ch.enter_false (l : Ch.Lock) (k : Nat) (h : Ch.Hold) : (Ch.enterL l k h).1 = false := by unfold Ch.enterL; split <;> rfl
theorem implCov_at {a b : Int} {v : Bool} (h : Ch.covers a b = v) (w : World) : Calls Try.prog 217 #[.int .i64 a, .int .i64 b] w fun e w' => e = .returned (.bool v) ∧ Below w.heap.size w w' := by
  refine (implCov_any a b w).mono ?_
  rintro e w' ⟨rfl, hb⟩
  exact ⟨by rw [← h]; rfl, hb⟩
end Go.Proofs.Ytjagobcogkdfhaa


/- AskLock of the program. -/
namespace Go.Proofs.Ytjagobcogkdfhaa
open Go.RowKit

theorem Ch.with_mem {r : Int} {ls : List Ch.Lock} {x : Ch.Lock} (h : x ∈ Ch.withL r ls) : x ∈ ls ∨ x = ⟨r, [], []⟩ := by
  unfold Ch.withL at h
  split at h
  · exact .inl h
  · simp only [List.mem_append, List.mem_singleton] at h
    rcases h with (h | h) | h
    · exact .inl (List.mem_of_mem_take h)
    · exact .inr h
    · exact .inl (List.mem_of_mem_drop h)
theorem Ch.lk_mem {ls : List Ch.Lock} {i : Nat} (h : i < ls.length) : Ch.lkAt ls i ∈ ls := by
  unfold Ch.lkAt
  rw [List.getD_eq_getElem?_getD, List.getElem?_eq_getElem h]
  exact List.getElem_mem h
theorem Ch.mem_lk {ls : List Ch.Lock} {x : Ch.Lock} (h : x ∈ ls) : ∃ i, i < ls.length ∧ Ch.lkAt ls i = x := by
  obtain ⟨i, hi, rfl⟩ := List.mem_iff_getElem.1 h
  refine ⟨i, hi, ?_⟩
  unfold Ch.lkAt
  rw [List.getD_eq_getElem?_getD, List.getElem?_eq_getElem hi]
  rfl
theorem Ch.good_mem {ls : List Ch.Lock} (h : Ch.locksFault ls = 0) {x : Ch.Lock} (hx : x ∈ ls) : Ch.lockFault x = 0 := by
  obtain ⟨i, hi, rfl⟩ := Ch.mem_lk hx
  exact (Ch.one_good ((Ch.locks_good h).1 i hi)).2.2.2
theorem Ch.with_at {ls : List Ch.Lock} (h : Ch.locksFault ls = 0) (r : Int) : (Ch.lkAt (Ch.withL r ls) (Ch.placeR r ls)).hs.length ≤ 20 ∧ (Ch.lkAt (Ch.withL r ls) (Ch.placeR r ls)).qs.length ≤ 20 ∧ Ch.namesH (Ch.lkAt (Ch.withL r ls) (Ch.placeR r ls)).hs = true ∧ Ch.namesH (Ch.lkAt (Ch.withL r ls) (Ch.placeR r ls)).qs = true := by
  rcases Ch.with_mem (Ch.lk_mem (Ch.with_len r ls).1) with hx | hx
  · have := Ch.lock_good (Ch.good_mem h hx)
    exact ⟨this.1, this.2.1, this.2.2.1, this.2.2.2.1⟩
  · rw [hx]; exact ⟨by simp, by simp, rfl, rfl⟩
theorem Ch.cov_none {m : Int} (h : Ch.inB m 1 5 = true) : Ch.covers 0 m = false := by
  simp only [Ch.inB, Bool.and_eq_true, decide_eq_true_eq] at h
  obtain rfl | rfl | rfl | rfl | rfl : m = 1 ∨ m = 2 ∨ m = 3 ∨ m = 4 ∨ m = 5 := by omega
  all_goals rfl
theorem Ch.join_none {m : Int} (h : Ch.inB m 1 5 = true) : Ch.join 0 m = m := by
  simp only [Ch.inB, Bool.and_eq_true, decide_eq_true_eq] at h
  obtain rfl | rfl | rfl | rfl | rfl : m = 1 ∨ m = 2 ∨ m = 3 ∨ m = 4 ∨ m = 5 := by omega
  all_goals rfl
theorem Ch.held_isM {m : Int} (h : Ch.inB m 1 5 = true) : Ch.isM m = true := by
  simp only [Ch.isM, Ch.inB, Bool.and_eq_true, decide_eq_true_eq] at h ⊢; omega
theorem Ch.putH_pos (hs : List Ch.Hold) (h : Ch.Hold) : 0 < (Ch.putH hs h).length := by
  unfold Ch.putH
  split
  · next hh =>
    rw [List.length_set]
    cases hs with
    | nil => simp [Ch.hasH] at hh
    | cons => simp
  · simp
theorem Ch.enter_used {l : Ch.Lock} {k : Nat} {h : Ch.Hold} (h0 : (Ch.enterL l k h).2.1 = 0) : 0 < (Ch.enterL l k h).2.2.hs.length + (Ch.enterL l k h).2.2.qs.length := by
  unfold Ch.enterL at h0 ⊢
  split
  · next hh => rw [if_pos hh] at h0; simp at h0
  · simp; omega
theorem Ch.enter_size (l : Ch.Lock) (k : Nat) (h : Ch.Hold) (hk : k ≤ l.qs.length) : (Ch.enterL l k h).2.2.hs.length + (Ch.enterL l k h).2.2.qs.length ≤ l.hs.length + l.qs.length + 1 := by
  unfold Ch.enterL
  split
  · simp only; omega
  · simp; omega
theorem Ch.ask_used1 {l : Ch.Lock} {t m : Int} (hm : Ch.inB m 1 5 = true) (h0 : (Ch.askOne l t m).2.1 = 0) : 0 < (Ch.askOne l t m).2.2.hs.length + (Ch.askOne l t m).2.2.qs.length := by
  unfold Ch.askOne at h0 ⊢
  split
  · next hc =>
    simp only
    rcases Nat.eq_zero_or_pos l.hs.length with h | h
    · have : l.hs = [] := List.length_eq_zero_iff.1 h
      rw [this, show Ch.modeH [] t = 0 from rfl, Ch.cov_none hm] at hc
      cases hc
    · omega
  · next hc =>
    rw [if_neg hc] at h0
    split
    · next h1 => rw [if_pos h1] at h0; exact Ch.enter_used h0
    · next h1 =>
      rw [if_neg h1] at h0
      split
      · next h2 => rw [if_pos h2] at h0; exact Ch.enter_used h0
      · next h2 =>
        rw [if_neg h2] at h0
        split
        · next h3 => rw [if_pos h3] at h0; simp at h0
        · simp only
          have := Ch.putH_pos l.hs ⟨t, Ch.join (Ch.modeH l.hs t) m⟩
          omega
theorem Ch.ask_size1 (l : Ch.Lock) (t m : Int) : (Ch.askOne l t m).2.2.hs.length + (Ch.askOne l t m).2.2.qs.length ≤ l.hs.length + l.qs.length + 1 := by
  unfold Ch.askOne
  split
  · simp only; omega
  · split
    · exact Ch.enter_size _ _ _ (Nat.le_refl _)
    · split
      · exact Ch.enter_size _ _ _ (Ch.conv_le _ _)
      · split
        · simp only; omega
        · simp only
          have := Ch.putH_len l.hs ⟨t, Ch.join (Ch.modeH l.hs t) m⟩
          omega
theorem Ch.with_other {r : Int} {ls : List Ch.Lock} {i : Nat} (hi : i < (Ch.withL r ls).length) (hn : i ≠ Ch.placeR r ls) : Ch.lkAt (Ch.withL r ls) i ∈ ls := by
  unfold Ch.withL at hi ⊢
  split
  · next h => rw [if_pos h] at hi; exact Ch.lk_mem hi
  · next h =>
    rw [if_neg h] at hi
    have hp := Ch.place_le r ls
    rw [Ch.lk_ins _ _ _ _ hp]
    have hl : i < ls.length + 1 := by simp at hi; omega
    split
    · next h1 => exact Ch.lk_mem (by omega)
    · next h1 => exact Ch.lk_mem (by omega)
def Ch.askLs (ls : List Ch.Lock) (t r m : Int) : List Ch.Lock := (Ch.withL r ls).set (Ch.placeR r ls) (Ch.askAt ls t r m).2.2
theorem Ch.askLs_mem {ls : List Ch.Lock} {t r m : Int} {x : Ch.Lock} (h : x ∈ Ch.askLs ls t r m) : x ∈ ls ∨ x = (Ch.askAt ls t r m).2.2 := by
  obtain ⟨i, hi, rfl⟩ := Ch.mem_lk h
  unfold Ch.askLs at hi ⊢
  rw [lk_set _ _ _ _ (Ch.with_len r ls).1]
  split
  · exact .inr rfl
  · next hn => exact .inl (Ch.with_other (by simpa using hi) (fun e => hn e.symm))
theorem Ch.ask_filter {ls : List Ch.Lock} {t r m : Int} (hg : Ch.locksFault ls = 0) (hm : Ch.inB m 1 5 = true) (h0 : (Ch.askAt ls t r m).2.1 = 0) : (Ch.askLs ls t r m).filter Ch.usedL = Ch.askLs ls t r m := by
  refine List.filter_eq_self.2 fun x hx => ?_
  have hp : 0 < x.hs.length + x.qs.length := by
    rcases Ch.askLs_mem hx with h | h
    · exact (Ch.lock_good (Ch.good_mem hg h)).2.2.2.2.2.2.1
    · rw [h]; exact Ch.ask_used1 hm h0
  have h1 : (x.hs.length + x.qs.length == 0) = false := by rw [beq_eq_false_iff_ne]; omega
  unfold Ch.usedL
  rw [h1]; rfl
theorem Ch.ask_size {ls : List Ch.Lock} (hg : Ch.locksFault ls = 0) (t r m : Int) : Ch.lkSize (Ch.askLs ls t r m) ≤ 5000 := by
  have h1 : ∀ x ∈ Ch.askLs ls t r m, x.hs.length + x.qs.length ≤ 41 := by
    intro x hx
    rcases Ch.askLs_mem hx with h | h
    · have := Ch.lock_good (Ch.good_mem hg h); omega
    · rw [h]
      have h2 := Ch.ask_size1 (Ch.lkAt (Ch.withL r ls) (Ch.placeR r ls)) t m
      have h3 := Ch.with_at hg r
      unfold Ch.askAt; omega
  have h2 := Ch.size_bound h1
  have h3 := Ch.good_few hg
  have h4 := (Ch.with_len r ls).2
  have h5 : (Ch.askLs ls t r m).length = (Ch.withL r ls).length := by unfold Ch.askLs; simp
  rw [h5] at h2
  have : (41 + 1) * (Ch.withL r ls).length ≤ (41 + 1) * 102 := Nat.mul_le_mul_left _ (by omega)
  omega
theorem Ch.askR_c {ls : List Ch.Lock} {t r m c : Int} (h : Ch.askC ls t r m = c) (h0 : c ≠ 0) : Ch.askR ls t r m = (c, false, []) := by
  subst h; unfold Ch.askR; rw [if_pos (by simpa using h0)]
theorem Ch.askR_no {ls : List Ch.Lock} {t r m c : Int} (h : Ch.askC ls t r m = 0) (h1 : (Ch.askAt ls t r m).2.1 = c) (h0 : c ≠ 0) : Ch.askR ls t r m = (c, false, []) := by
  subst h1; unfold Ch.askR; rw [if_neg (by simp [h]), if_pos (by simpa using h0)]
theorem Ch.askR_ok {ls : List Ch.Lock} {t r m : Int} (h : Ch.askC ls t r m = 0) (h1 : (Ch.askAt ls t r m).2.1 = 0) : Ch.askR ls t r m = (0, (Ch.askAt ls t r m).1, Ch.askLs ls t r m) := by
  unfold Ch.askR; rw [if_neg (by simp [h]), if_neg (by simp [h1])]; rfl
theorem Ch.askC_bad {ls : List Ch.Lock} {t r m c : Int} (h : Ch.askedT ls t = c) (h0 : c ≠ 0) : Ch.askC ls t r m = c := by
  subst h; unfold Ch.askC; rw [if_pos (by simpa using h0)]
theorem Ch.askC_range {ls : List Ch.Lock} {t r m : Int} (h : Ch.askedT ls t = 0) (h1 : (Ch.inB r 0 100 && Ch.inB m 1 5) = false) : Ch.askC ls t r m = 3 := by
  unfold Ch.askC; rw [if_neg (by simp [h]), if_pos (by simp [h1])]
theorem Ch.askC_waits {ls : List Ch.Lock} {t r m : Int} (h : Ch.askedT ls t = 0) (h1 : (Ch.inB r 0 100 && Ch.inB m 1 5) = true) (h2 : Ch.waitsB ls t = true) : Ch.askC ls t r m = 10 := by
  unfold Ch.askC; rw [if_neg (by simp [h]), if_neg (by simp [h1]), if_pos h2]
theorem Ch.askC_ok {ls : List Ch.Lock} {t r m : Int} (h : Ch.askedT ls t = 0) (h1 : (Ch.inB r 0 100 && Ch.inB m 1 5) = true) (h2 : Ch.waitsB ls t = false) : Ch.askC ls t r m = 0 := by
  unfold Ch.askC; rw [if_neg (by simp [h]), if_neg (by simp [h1]), if_neg (by simp [h2])]

theorem isRes_at {v : Int} {b : Bool} (h : Ch.inB v 0 100 = b) (w : World) : Calls Try.prog 148 #[.int .i64 v] w fun e w' => e = .returned (.bool b) ∧ w' = w := h ▸ isRes_any v w
theorem heldMode_at {v : Int} {b : Bool} (h : Ch.inB v 1 5 = b) (w : World) : Calls Try.prog 213 #[.int .i64 v] w fun e w' => e = .returned (.bool b) ∧ w' = w := h ▸ heldMode_any v w

end Go.Proofs.Ytjagobcogkdfhaa

