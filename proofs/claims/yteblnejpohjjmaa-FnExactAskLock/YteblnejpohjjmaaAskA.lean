/- A new lock among locks of one's own: withLockOf. -/
import Derived.Test.YteblnejpohjjmaaInsK
import Derived.Test.YteblnejpohjjmaaLkI
import Derived.Test.YteblnejpohjjmaaAskM
namespace Go.Proofs.Yteblnejpohjjmaa
open Go.RowKit

theorem lcells_take {ls : List Ch.Lock} {vs : List (Value × Value)} (h : ls.length = vs.length) {k : Nat} (hk : k ≤ ls.length) : lcells (ls.take k) (vs.take k) = (lcells ls vs).take (k * 3) ∧ lcells (ls.drop k) (vs.drop k) = (lcells ls vs).drop (k * 3) := by
  have ht : (ls.take k).length = (vs.take k).length := by simp [h]
  have e : lcells ls vs = lcells (ls.take k) (vs.take k) ++ lcells (ls.drop k) (vs.drop k) := by
    rw [← lcells_append ht, List.take_append_drop, List.take_append_drop]
  have hl : (lcells (ls.take k) (vs.take k)).length = k * 3 := by rw [lcells_len ht]; simp; omega
  rw [e]
  exact ⟨(List.take_left' hl).symm, (List.drop_left' hl).symm⟩
theorem ins_get {vs : List (Value × Value)} {k : Nat} (hk : k ≤ vs.length) (p : Value × Value) {i : Nat} {q : Value × Value} (hq : (vs.take k ++ [p] ++ vs.drop k)[i]? = some q) : (i < k ∧ vs[i]? = some q) ∨ (i = k ∧ q = p) ∨ (k < i ∧ vs[i - 1]? = some q) := by
  have hlen : (vs.take k).length = k := by simp; omega
  rcases Nat.lt_trichotomy i k with h | h | h
  · rw [List.append_assoc, List.getElem?_append_left (by omega), List.getElem?_take_of_lt h] at hq
    exact .inl ⟨h, hq⟩
  · subst h
    rw [List.append_assoc, List.getElem?_append_right (by omega), hlen] at hq
    simp at hq
    exact .inr (.inl ⟨rfl, hq.symm⟩)
  · rw [List.getElem?_append_right (by simp; omega)] at hq
    simp only [List.length_append, hlen, List.length_singleton, List.getElem?_drop] at hq
    have : k + (i - (k + 1)) = i - 1 := by omega
    rw [this] at hq
    exact .inr (.inr ⟨h, hq⟩)
def nilP : Value × Value := (.slice none 0 0, .slice none 0 0)
theorem ins_blks (vs : List (Value × Value)) (k : Nat) : (vs.take k ++ [nilP] ++ vs.drop k).flatMap blks = vs.flatMap blks := by
  have e : vs.flatMap blks = (vs.take k).flatMap blks ++ (vs.drop k).flatMap blks := by rw [← List.flatMap_append, List.take_append_drop]
  rw [e, List.flatMap_append, List.flatMap_append]
  simp [nilP, blks, Value.ownBlock]
/-- One more lock that nobody holds, at a place among the others. -/
theorem OwnK.ins {T : TypeId} {w w' : World} {B n : Nat} {v : Value} {ls : List Ch.Lock} {vs : List (Value × Value)} (h : OwnK T w B v n ls vs) {k : Nat} (hk : k ≤ n) {r : Int} {a' : Option Addr} {c' : Nat}
    (own : w'.ownsRow B T 3 (.slice a' (n + 1) c') (n + 1) ((lcells ls vs).take (k * 3) ++ [.int .i64 r, .slice none 0 0, .slice none 0 0] ++ (lcells ls vs).drop (k * 3))) (gr : w.grownBy w' v.ownBlock) (hat : ∀ g, (Value.slice a' (n + 1) c').ownBlock = some g → v.ownBlock = some g ∨ w.heap.size ≤ g) :
    OwnK T w' B (.slice a' (n + 1) c') (n + 1) (ls.take k ++ [⟨r, [], []⟩] ++ ls.drop k) (vs.take k ++ [nilP] ++ vs.drop k) := by
  have hl : ls.length = vs.length := by rw [h.len, h.vlen]
  have hk1 : k ≤ ls.length := by rw [h.len]; exact hk
  have hk2 : k ≤ vs.length := by rw [h.vlen]; exact hk
  have hsub : ∀ (i : Nat) (q : Value × Value), vs[i]? = some q → ∀ g ∈ blks q, v.ownBlock ≠ some g := fun i q hq g hg e => apart_row h.apart hq e hg
  refine ⟨by simp [h.len]; omega, by simp [h.vlen]; omega, ?_, fun i q hq => ?_, fun i q hq => ?_, ?_⟩
  · rw [lcells_append (by simp [hl]), lcells_append (by simp [hl]), (lcells_take hl hk1).1, (lcells_take hl hk1).2]
    exact own
  · rw [Ch.lk_ins _ _ _ _ hk1]
    rcases ins_get hk2 _ hq with ⟨hi, hq'⟩ | ⟨rfl, rfl⟩ | ⟨hi, hq'⟩
    · rw [if_pos hi]; exact owns_grown (h.hs i q hq') gr fun g hg e => hsub i q hq' g (by simp [blks, hg]) e
    · rw [if_neg (by omega), if_pos rfl]; exact World.ownsRow_nil _ _ _ _
    · rw [if_neg (by omega), if_neg (by omega)]; exact owns_grown (h.hs _ q hq') gr fun g hg e => hsub _ q hq' g (by simp [blks, hg]) e
  · rw [Ch.lk_ins _ _ _ _ hk1]
    rcases ins_get hk2 _ hq with ⟨hi, hq'⟩ | ⟨rfl, rfl⟩ | ⟨hi, hq'⟩
    · rw [if_pos hi]; exact owns_grown (h.qs i q hq') gr fun g hg e => hsub i q hq' g (by simp [blks, hg]) e
    · rw [if_neg (by omega), if_pos rfl]; exact World.ownsRow_nil _ _ _ _
    · rw [if_neg (by omega), if_neg (by omega)]; exact owns_grown (h.qs _ q hq') gr fun g hg e => hsub _ q hq' g (by simp [blks, hg]) e
  · rw [ins_blks]
    exact apart_v h.apart hat fun i q hq g hg => (h.bd hq hg).2
theorem lcells_one' {ls : List Ch.Lock} {vs : List (Value × Value)} (h : ∀ (i : Nat) (q : Value × Value), vs[i]? = some q → q.1.oneCell' = true ∧ q.2.oneCell' = true) : ∀ u ∈ lcells ls vs, u.oneCell' = true := by
  intro u hu
  unfold lcells at hu
  rw [List.mem_flatMap] at hu
  obtain ⟨⟨l, x, y⟩, hz, hu⟩ := hu
  have hm := (List.of_mem_zip hz).2
  obtain ⟨i, hi⟩ := List.getElem?_of_mem hm
  have := h i _ hi
  simp at hu
  rcases hu with rfl | rfl | rfl
  · rfl
  · exact this.1
  · exact this.2
theorem OwnK.one' {T : TypeId} {w : World} {B n : Nat} {v : Value} {ls : List Ch.Lock} {vs : List (Value × Value)} (h : OwnK T w B v n ls vs) : ∀ u ∈ lcells ls vs, u.oneCell' = true := by
  refine lcells_one' fun i q hq => ?_
  obtain ⟨a, c, e⟩ := owns_shape (h.hs i q hq)
  obtain ⟨a2, c2, e2⟩ := owns_shape (h.qs i q hq)
  rw [e, e2]
  exact ⟨rfl, rfl⟩

set_option maxRecDepth 20000 in
set_option maxHeartbeats 4000000 in
theorem withLock_any (B : Nat) (a : Option Addr) (n cap : Nat) (r : Int) (ls : List Ch.Lock) (vs : List (Value × Value)) (w : World) (own : OwnK 77 w B (.slice a n cap) n ls vs) (hn : n ≤ 1048576) (hB : B ≤ w.heap.size) :
    Calls Try.prog 47 #[.slice a n cap, .int .i64 r] w fun e w' => ∃ a' m c', e = .returned (.tuple #[.slice a' m c', .int .i64 (Ch.placeR r ls)]) ∧ OwnLk 77 w' B (.slice a' m c') m (Ch.withL r ls) ∧ Below B w w' := by
  have HL : Hid (ls.length = n) := own.len
  have HOwn := hid own
  have h1x := hid own.one'
  go_enter Try.func47, Try.ntmps47
  go_wp2
  go_loopw [6] (fun i wr => ∃ k : Nat, k ≤ n ∧ i = .int .i64 k ∧ Hid (∀ j, j < k → (Ch.lkAt ls j).r < r) ∧ wr = w) (fun i _ => n - (intOf i).toNat)
  case atStart => exact ⟨0, Nat.zero_le _, rfl, (fun j hj => by omega), rfl⟩
  case round =>
    obtain ⟨k, hk, rfl, HA, rfl⟩ := hrel
    have HINS : (k < ls.length → r < (Ch.lkAt ls k).r) → Hid (Ch.placeR r ls = k ∧ Ch.withL r ls = ls.take k ++ [⟨r, [], []⟩] ++ ls.drop k) := fun hh => Ch.with_no (by have := HL.out; omega) HA.out hh
    by_cases hlt : k < n
    · have hkl : k < ls.length := by have := HL.out; omega
      obtain ⟨o, rfl⟩ := own.rowAt hlt
      obtain ⟨ah, ch, aq, cq, hp, c0, c1, c2, f1, f2, o1, o2, ne, nr, ob1, ob2⟩ := own.one hlt
      have HNX : Hid ((Ch.lkAt ls k).r < r → ∀ j, j < k + 1 → (Ch.lkAt ls j).r < r) := fun hh j hj => by
        rcases Nat.lt_or_eq_of_le (Nat.le_of_lt_succ hj) with h1 | h1
        · exact HA.out j h1
        · subst h1; exact hh
      have HYES : Hid ((Ch.lkAt ls k).r = r → Ch.placeR r ls = k ∧ Ch.withL r ls = ls) := fun he => Ch.with_yes (by omega) HA.out hkl he
      generalize hrr : (Ch.lkAt ls k).r = rr at *
      clear c1 c2 f1 f2 o1 o2 ne nr hp own
      by_cases h1 : rr < r
      · go_wp2
        go_roundw
        case rel => exact ⟨k + 1, by omega, by go_num, HNX.out h1, trivial⟩
        case measure => simp [intOf]; omega
      · by_cases h2 : rr = r
        · subst h2
          have HY := hid (HYES.out rfl)
          go_wp2
          exact bodyPost_ret (v := .tuple #[.slice (some ⟨o, 0, none⟩) n cap, .int .i64 k]) (by simp [results, Try.results47, go_sem]) rfl ⟨_, _, _, by rw [HY.out.1], by rw [HY.out.2]; exact ⟨vs, HOwn.out⟩, Below.refl _ _⟩
        · have HY := HINS (fun _ => by omega)
          go_wp2_with fail
          have kN : ∀ q, Below wr.heap.size wr (wr.alloc q) := fun q => (Below.refl _ _).alloc (Nat.le_refl _) q
          have ownA := HOwn.out.below (kN (.cells #[.int .i64 r, .slice none 0 0, .slice none 0 0] 77))
          have hb5 : B ≤ (wr.alloc (.cells #[.int .i64 r, .slice none 0 0, .slice none 0 0] 77)).heap.size := Nat.le_trans hB (kN _).size
          refine (insertO_any B (some ⟨o, 0, none⟩) n cap k wr.heap.size (lcells ls vs) [.int .i64 r, .slice none 0 0, .slice none 0 0] _ ownA.row (heap_alloc_new _ _) rfl (lock_one' r none 0 0 none 0 0) h1x.out hn hk hb5 (fun e => by have := (owns_lt HOwn.out.row _ e).2; omega)).mono ?_
          rintro e w5 ⟨a5, c5, rfl, own5, gr5, at5⟩
          have ownI := hid (ownA.ins hk own5 gr5 at5)
          have bI := hid (((kN (.cells #[.int .i64 r, .slice none 0 0, .slice none 0 0] 77)).mono hB).grown gr5 hb5 (fun g hg => (owns_lt ownA.row g hg).1))
          clear own5 gr5 at5 ownA
          go_wp2
          exact bodyPost_ret (v := .tuple #[.slice a5 (n + 1) c5, .int .i64 k]) (by simp [results, Try.results47, go_sem]) rfl ⟨_, _, _, by rw [HY.out.1], by rw [HY.out.2]; exact ⟨_, ownI.out⟩, bI.out⟩
    · have HY := HINS (fun hh => by have := HL.out; omega)
      go_wp2_with fail
      have kN : ∀ q, Below wr.heap.size wr (wr.alloc q) := fun q => (Below.refl _ _).alloc (Nat.le_refl _) q
      have ownA := HOwn.out.below (kN (.cells #[.int .i64 r, .slice none 0 0, .slice none 0 0] 77))
      have hb5 : B ≤ (wr.alloc (.cells #[.int .i64 r, .slice none 0 0, .slice none 0 0] 77)).heap.size := Nat.le_trans hB (kN _).size
      refine (insertO_any B a n cap k wr.heap.size (lcells ls vs) [.int .i64 r, .slice none 0 0, .slice none 0 0] _ ownA.row (heap_alloc_new _ _) rfl (lock_one' r none 0 0 none 0 0) h1x.out hn hk hb5 (fun e => by have := (owns_lt HOwn.out.row _ e).2; omega)).mono ?_
      rintro e w5 ⟨a5, c5, rfl, own5, gr5, at5⟩
      have ownI := hid (ownA.ins hk own5 gr5 at5)
      have bI := hid (((kN (.cells #[.int .i64 r, .slice none 0 0, .slice none 0 0] 77)).mono hB).grown gr5 hb5 (fun g hg => (owns_lt ownA.row g hg).1))
      clear own5 gr5 at5 ownA
      go_wp2
      exact bodyPost_ret (v := .tuple #[.slice a5 (n + 1) c5, .int .i64 k]) (by simp [results, Try.results47, go_sem]) rfl ⟨_, _, _, by rw [HY.out.1], by rw [HY.out.2]; exact ⟨_, ownI.out⟩, bI.out⟩

end Go.Proofs.Yteblnejpohjjmaa
