/- Several texts in one: AskM, AskA, AskB, JoiW, JoiI, AskC, AskD. -/
import Derived.Test.YteblnejpohjjmaaLkEM
import Derived.Test.YteblnejpohjjmaaInsK
import Derived.Test.YteblnejpohjjmaaLkI
import Derived.Test.YteblnejpohjjmaaModS
import Derived.Test.YteblnejpohjjmaaPackA
import Derived.ChangeKeysEq

/- A lock asked for, plainly. -/
namespace Go.Proofs.Yteblnejpohjjmaa.Ch
/-- The place of a resource among the locks. -/
def placeR (r : Int) : List Lock → Nat
  | [] => 0
  | l :: ls => if l.r < r then placeR r ls + 1 else 0
theorem place_le (r : Int) (ls : List Lock) : placeR r ls ≤ ls.length := by
  induction ls with
  | nil => exact Nat.le_refl _
  | cons q qs ih => unfold placeR; split <;> simp <;> omega
theorem place_lt (r : Int) (ls : List Lock) {k : Nat} (hk : k < placeR r ls) : (lkAt ls k).r < r := by
  induction ls generalizing k with
  | nil => simp [placeR] at hk
  | cons q qs ih =>
    unfold placeR at hk
    split at hk
    · cases k with
      | zero => simpa [lkAt] using ‹_›
      | succ k => simpa [lkAt] using ih (by omega)
    · omega
theorem place_at (r : Int) (ls : List Lock) (hk : placeR r ls < ls.length) : ¬ (lkAt ls (placeR r ls)).r < r := by
  induction ls with
  | nil => simp at hk
  | cons q qs ih =>
    unfold placeR at hk ⊢
    split
    · next h =>
      rw [if_pos h] at hk
      simpa [lkAt] using ih (by simpa using hk)
    · next h => simpa [lkAt] using h
theorem place_is {r : Int} {ls : List Lock} {k : Nat} (hk : k ≤ ls.length) (h1 : ∀ j, j < k → (lkAt ls j).r < r) (h2 : k < ls.length → ¬ (lkAt ls k).r < r) : placeR r ls = k := by
  rcases Nat.lt_trichotomy (placeR r ls) k with h | h | h
  · have := h1 _ h
    exact absurd this (place_at r ls (by omega))
  · exact h
  · have := place_lt r ls h
    have hl := place_le r ls
    exact absurd this (h2 (by omega))
/-- Is there a lock of the resource? -/
def thereR (r : Int) (ls : List Lock) : Bool := decide (placeR r ls < ls.length) && ((lkAt ls (placeR r ls)).r == r)
/-- The locks with one of the resource. -/
def withL (r : Int) (ls : List Lock) : List Lock := if thereR r ls then ls else ls.take (placeR r ls) ++ [⟨r, [], []⟩] ++ ls.drop (placeR r ls)
theorem with_yes {r : Int} {ls : List Lock} {k : Nat} (hk : k ≤ ls.length) (h1 : ∀ j, j < k → (lkAt ls j).r < r) (h2 : k < ls.length) (he : (lkAt ls k).r = r) : placeR r ls = k ∧ withL r ls = ls := by
  have hp : placeR r ls = k := place_is hk h1 (fun _ => by omega)
  refine ⟨hp, ?_⟩
  unfold withL thereR
  rw [hp, if_pos (by simp [h2, he])]
theorem with_no {r : Int} {ls : List Lock} {k : Nat} (hk : k ≤ ls.length) (h1 : ∀ j, j < k → (lkAt ls j).r < r) (h2 : k < ls.length → r < (lkAt ls k).r) : placeR r ls = k ∧ withL r ls = ls.take k ++ [⟨r, [], []⟩] ++ ls.drop k := by
  have hp : placeR r ls = k := place_is hk h1 (fun h => by have := h2 h; omega)
  refine ⟨hp, ?_⟩
  unfold withL thereR
  rw [hp, if_neg]
  simp only [Bool.and_eq_true, decide_eq_true_eq, beq_iff_eq, not_and]
  intro h e
  have := h2 h; omega
theorem lk_ins (ls : List Lock) (l : Lock) (k i : Nat) (hk : k ≤ ls.length) : lkAt (ls.take k ++ [l] ++ ls.drop k) i = if i < k then lkAt ls i else if i = k then l else lkAt ls (i - 1) := by
  unfold lkAt
  simp only [List.getD]
  have hlen : (ls.take k).length = k := by simp; omega
  split
  · next h => rw [List.append_assoc, List.getElem?_append_left (by omega), List.getElem?_take_of_lt h]
  · next h =>
    split
    · next h2 => subst h2; rw [List.append_assoc, List.getElem?_append_right (by omega), hlen]; simp
    · next h2 =>
      rw [List.getElem?_append_right (by simp; omega)]
      simp only [List.length_append, hlen, List.length_singleton, List.getElem?_drop]
      congr 3; omega
/-- One more in the queue. -/
def enterL (l : Lock) (k : Nat) (h : Hold) : Bool × Int × Lock := if 20 ≤ l.qs.length then (false, 2, l) else (false, 0, ⟨l.r, l.hs, l.qs.take k ++ [h] ++ l.qs.drop k⟩)
def askOne (l : Lock) (t m : Int) : Bool × Int × Lock :=
  if covers (modeH l.hs t) m then (true, 0, l)
  else if modeH l.hs t == 0 && (!fitsH l.hs t (join (modeH l.hs t) m) || decide (0 < l.qs.length)) then enterL l l.qs.length ⟨t, join (modeH l.hs t) m⟩
  else if !fitsH l.hs t (join (modeH l.hs t) m) then enterL l (convH l.hs l.qs) ⟨t, join (modeH l.hs t) m⟩
  else if !(hasH l.hs t || decide (l.hs.length < 20)) then (false, 2, l)
  else (true, 0, ⟨l.r, putH l.hs ⟨t, join (modeH l.hs t) m⟩, l.qs⟩)
def askAt (ls : List Lock) (t r m : Int) : Bool × Int × Lock := askOne (lkAt (withL r ls) (placeR r ls)) t m
def askC (ls : List Lock) (t r m : Int) : Int := if askedT ls t != 0 then askedT ls t else if !(inB r 0 100 && inB m 1 5) then 3 else if waitsB ls t then 10 else 0
/-- What AskLock answers: the code, granted, the locks. -/
def askR (ls : List Lock) (t r m : Int) : Int × Bool × List Lock :=
  if askC ls t r m != 0 then (askC ls t r m, false, [])
  else if (askAt ls t r m).2.1 != 0 then ((askAt ls t r m).2.1, false, [])
  else (0, (askAt ls t r m).1, ((withL r ls).set (placeR r ls) (askAt ls t r m).2.2))
theorem with_len (r : Int) (ls : List Lock) : placeR r ls < (withL r ls).length ∧ (withL r ls).length ≤ ls.length + 1 := by
  have := place_le r ls
  unfold withL
  split
  · next h =>
    unfold thereR at h
    simp only [Bool.and_eq_true, decide_eq_true_eq] at h
    exact ⟨h.1, by omega⟩
  · simp; omega
end Go.Proofs.Yteblnejpohjjmaa.Ch

/- A new lock among locks of one's own: withLockOf. -/
namespace Go.Proofs.Yteblnejpohjjmaa
open Go.RowKit

theorem lcells_take {ls : List Ch.Lock} {vs : List (Value × Value)} (h : ls.length = vs.length) {k : Nat} (hk : k ≤ ls.length) : lcells (ls.take k) (vs.take k) = (lcells ls vs).take (k * 3) ∧ lcells (ls.drop k) (vs.drop k) = (lcells ls vs).drop (k * 3) := by
  have ht : (ls.take k).length = (vs.take k).length := by simp [h]
  have e : lcells ls vs = lcells (ls.take k) (vs.take k) ++ lcells (ls.drop k) (vs.drop k) := by
    rw [← lcells_append ht, List.take_append_drop, List.take_append_drop]
  have hl : (lcells (ls.take k) (vs.take k)).length = k * 3 := by rw [lcells_len ht]; simp; omega
  rw [e]
  exact ⟨(List.take_left' hl).symm, (List.drop_left' hl).symm⟩
theorem ins_get {vs : List (Value × Value)} {k : Nat} (hk : k ≤ vs.length) (p : Value × Value) {i : Nat} {q : Value × Value} (hq : (vs.take k ++ [p] ++ vs.drop k)[i]? = some q) : (i < k ∧ vs[i]? = some q) ∨ (i = k ∧ q = p) ∨ (k < i ∧ vs[i - 1]? = some q) := by
  have hlen : (vs.take k).length = k := by simp; omega
  rcases Nat.lt_trichotomy i k with h | h | h
  · rw [List.append_assoc, List.getElem?_append_left (by omega), List.getElem?_take_of_lt h] at hq
    exact .inl ⟨h, hq⟩
  · subst h
    rw [List.append_assoc, List.getElem?_append_right (by omega), hlen] at hq
    simp at hq
    exact .inr (.inl ⟨rfl, hq.symm⟩)
  · rw [List.getElem?_append_right (by simp; omega)] at hq
    simp only [List.length_append, hlen, List.length_singleton, List.getElem?_drop] at hq
    have : k + (i - (k + 1)) = i - 1 := by omega
    rw [this] at hq
    exact .inr (.inr ⟨h, hq⟩)
def nilP : Value × Value := (.slice none 0 0, .slice none 0 0)
theorem ins_blks (vs : List (Value × Value)) (k : Nat) : (vs.take k ++ [nilP] ++ vs.drop k).flatMap blks = vs.flatMap blks := by
  have e : vs.flatMap blks = (vs.take k).flatMap blks ++ (vs.drop k).flatMap blks := by rw [← List.flatMap_append, List.take_append_drop]
  rw [e, List.flatMap_append, List.flatMap_append]
  simp [nilP, blks, Value.ownBlock]
/-- One more lock that nobody holds, at a place among the others. -/
theorem OwnK.ins {T : TypeId} {w w' : World} {B n : Nat} {v : Value} {ls : List Ch.Lock} {vs : List (Value × Value)} (h : OwnK T w B v n ls vs) {k : Nat} (hk : k ≤ n) {r : Int} {a' : Option Addr} {c' : Nat}
    (own : w'.ownsRow B T 3 (.slice a' (n + 1) c') (n + 1) ((lcells ls vs).take (k * 3) ++ [.int .i64 r, .slice none 0 0, .slice none 0 0] ++ (lcells ls vs).drop (k * 3))) (gr : w.grownBy w' v.ownBlock) (hat : ∀ g, (Value.slice a' (n + 1) c').ownBlock = some g → v.ownBlock = some g ∨ w.heap.size ≤ g) :
    OwnK T w' B (.slice a' (n + 1) c') (n + 1) (ls.take k ++ [⟨r, [], []⟩] ++ ls.drop k) (vs.take k ++ [nilP] ++ vs.drop k) := by
  have hl : ls.length = vs.length := by rw [h.len, h.vlen]
  have hk1 : k ≤ ls.length := by rw [h.len]; exact hk
  have hk2 : k ≤ vs.length := by rw [h.vlen]; exact hk
  have hsub : ∀ (i : Nat) (q : Value × Value), vs[i]? = some q → ∀ g ∈ blks q, v.ownBlock ≠ some g := fun i q hq g hg e => apart_row h.apart hq e hg
  refine ⟨by simp [h.len]; omega, by simp [h.vlen]; omega, ?_, fun i q hq => ?_, fun i q hq => ?_, ?_⟩
  · rw [lcells_append (by simp [hl]), lcells_append (by simp [hl]), (lcells_take hl hk1).1, (lcells_take hl hk1).2]
    exact own
  · rw [Ch.lk_ins _ _ _ _ hk1]
    rcases ins_get hk2 _ hq with ⟨hi, hq'⟩ | ⟨rfl, rfl⟩ | ⟨hi, hq'⟩
    · rw [if_pos hi]; exact owns_grown (h.hs i q hq') gr fun g hg e => hsub i q hq' g (by simp [blks, hg]) e
    · rw [if_neg (by omega), if_pos rfl]; exact World.ownsRow_nil _ _ _ _
    · rw [if_neg (by omega), if_neg (by omega)]; exact owns_grown (h.hs _ q hq') gr fun g hg e => hsub _ q hq' g (by simp [blks, hg]) e
  · rw [Ch.lk_ins _ _ _ _ hk1]
    rcases ins_get hk2 _ hq with ⟨hi, hq'⟩ | ⟨rfl, rfl⟩ | ⟨hi, hq'⟩
    · rw [if_pos hi]; exact owns_grown (h.qs i q hq') gr fun g hg e => hsub i q hq' g (by simp [blks, hg]) e
    · rw [if_neg (by omega), if_pos rfl]; exact World.ownsRow_nil _ _ _ _
    · rw [if_neg (by omega), if_neg (by omega)]; exact owns_grown (h.qs _ q hq') gr fun g hg e => hsub _ q hq' g (by simp [blks, hg]) e
  · rw [ins_blks]
    exact apart_v h.apart hat fun i q hq g hg => (h.bd hq hg).2
theorem lcells_one' {ls : List Ch.Lock} {vs : List (Value × Value)} (h : ∀ (i : Nat) (q : Value × Value), vs[i]? = some q → q.1.oneCell' = true ∧ q.2.oneCell' = true) : ∀ u ∈ lcells ls vs, u.oneCell' = true := by
  intro u hu
  unfold lcells at hu
  rw [List.mem_flatMap] at hu
  obtain ⟨⟨l, x, y⟩, hz, hu⟩ := hu
  have hm := (List.of_mem_zip hz).2
  obtain ⟨i, hi⟩ := List.getElem?_of_mem hm
  have := h i _ hi
  simp at hu
  rcases hu with rfl | rfl | rfl
  · rfl
  · exact this.1
  · exact this.2
theorem OwnK.one' {T : TypeId} {w : World} {B n : Nat} {v : Value} {ls : List Ch.Lock} {vs : List (Value × Value)} (h : OwnK T w B v n ls vs) : ∀ u ∈ lcells ls vs, u.oneCell' = true := by
  refine lcells_one' fun i q hq => ?_
  obtain ⟨a, c, e⟩ := owns_shape (h.hs i q hq)
  obtain ⟨a2, c2, e2⟩ := owns_shape (h.qs i q hq)
  rw [e, e2]
  exact ⟨rfl, rfl⟩

set_option maxRecDepth 20000 in
set_option maxHeartbeats 4000000 in
theorem withLock_any (B : Nat) (a : Option Addr) (n cap : Nat) (r : Int) (ls : List Ch.Lock) (vs : List (Value × Value)) (w : World) (own : OwnK 77 w B (.slice a n cap) n ls vs) (hn : n ≤ 1048576) (hB : B ≤ w.heap.size) :
    Calls Try.prog 47 #[.slice a n cap, .int .i64 r] w fun e w' => ∃ a' m c', e = .returned (.tuple #[.slice a' m c', .int .i64 (Ch.placeR r ls)]) ∧ OwnLk 77 w' B (.slice a' m c') m (Ch.withL r ls) ∧ Below B w w' := by
  have HL : Hid (ls.length = n) := own.len
  have HOwn := hid own
  have h1x := hid own.one'
  go_enter Try.func47, Try.ntmps47
  go_wp2
  go_loopw [6] (fun i wr => ∃ k : Nat, k ≤ n ∧ i = .int .i64 k ∧ Hid (∀ j, j < k → (Ch.lkAt ls j).r < r) ∧ wr = w) (fun i _ => n - (intOf i).toNat)
  case atStart => exact ⟨0, Nat.zero_le _, rfl, (fun j hj => by omega), rfl⟩
  case round =>
    obtain ⟨k, hk, rfl, HA, rfl⟩ := hrel
    have HINS : (k < ls.length → r < (Ch.lkAt ls k).r) → Hid (Ch.placeR r ls = k ∧ Ch.withL r ls = ls.take k ++ [⟨r, [], []⟩] ++ ls.drop k) := fun hh => Ch.with_no (by have := HL.out; omega) HA.out hh
    by_cases hlt : k < n
    · have hkl : k < ls.length := by have := HL.out; omega
      obtain ⟨o, rfl⟩ := own.rowAt hlt
      obtain ⟨ah, ch, aq, cq, hp, c0, c1, c2, f1, f2, o1, o2, ne, nr, ob1, ob2⟩ := own.one hlt
      have HNX : Hid ((Ch.lkAt ls k).r < r → ∀ j, j < k + 1 → (Ch.lkAt ls j).r < r) := fun hh j hj => by
        rcases Nat.lt_or_eq_of_le (Nat.le_of_lt_succ hj) with h1 | h1
        · exact HA.out j h1
        · subst h1; exact hh
      have HYES : Hid ((Ch.lkAt ls k).r = r → Ch.placeR r ls = k ∧ Ch.withL r ls = ls) := fun he => Ch.with_yes (by omega) HA.out hkl he
      generalize hrr : (Ch.lkAt ls k).r = rr at *
      clear c1 c2 f1 f2 o1 o2 ne nr hp own
      by_cases h1 : rr < r
      · go_wp2
        go_roundw
        case rel => exact ⟨k + 1, by omega, by go_num, HNX.out h1, trivial⟩
        case measure => simp [intOf]; omega
      · by_cases h2 : rr = r
        · subst h2
          have HY := hid (HYES.out rfl)
          go_wp2
          exact bodyPost_ret (v := .tuple #[.slice (some ⟨o, 0, none⟩) n cap, .int .i64 k]) (by simp [results, Try.results47, go_sem]) rfl ⟨_, _, _, by rw [HY.out.1], by rw [HY.out.2]; exact ⟨vs, HOwn.out⟩, Below.refl _ _⟩
        · have HY := HINS (fun _ => by omega)
          go_wp2_with fail
          have kN : ∀ q, Below wr.heap.size wr (wr.alloc q) := fun q => (Below.refl _ _).alloc (Nat.le_refl _) q
          have ownA := HOwn.out.below (kN (.cells #[.int .i64 r, .slice none 0 0, .slice none 0 0] 77))
          have hb5 : B ≤ (wr.alloc (.cells #[.int .i64 r, .slice none 0 0, .slice none 0 0] 77)).heap.size := Nat.le_trans hB (kN _).size
          refine (insertO_any B (some ⟨o, 0, none⟩) n cap k wr.heap.size (lcells ls vs) [.int .i64 r, .slice none 0 0, .slice none 0 0] _ ownA.row (heap_alloc_new _ _) rfl (lock_one' r none 0 0 none 0 0) h1x.out hn hk hb5 (fun e => by have := (owns_lt HOwn.out.row _ e).2; omega)).mono ?_
          rintro e w5 ⟨a5, c5, rfl, own5, gr5, at5⟩
          have ownI := hid (ownA.ins hk own5 gr5 at5)
          have bI := hid (((kN (.cells #[.int .i64 r, .slice none 0 0, .slice none 0 0] 77)).mono hB).grown gr5 hb5 (fun g hg => (owns_lt ownA.row g hg).1))
          clear own5 gr5 at5 ownA
          go_wp2
          exact bodyPost_ret (v := .tuple #[.slice a5 (n + 1) c5, .int .i64 k]) (by simp [results, Try.results47, go_sem]) rfl ⟨_, _, _, by rw [HY.out.1], by rw [HY.out.2]; exact ⟨_, ownI.out⟩, bI.out⟩
    · have HY := HINS (fun hh => by have := HL.out; omega)
      go_wp2_with fail
      have kN : ∀ q, Below wr.heap.size wr (wr.alloc q) := fun q => (Below.refl _ _).alloc (Nat.le_refl _) q
      have ownA := HOwn.out.below (kN (.cells #[.int .i64 r, .slice none 0 0, .slice none 0 0] 77))
      have hb5 : B ≤ (wr.alloc (.cells #[.int .i64 r, .slice none 0 0, .slice none 0 0] 77)).heap.size := Nat.le_trans hB (kN _).size
      refine (insertO_any B a n cap k wr.heap.size (lcells ls vs) [.int .i64 r, .slice none 0 0, .slice none 0 0] _ ownA.row (heap_alloc_new _ _) rfl (lock_one' r none 0 0 none 0 0) h1x.out hn hk hb5 (fun e => by have := (owns_lt HOwn.out.row _ e).2; omega)).mono ?_
      rintro e w5 ⟨a5, c5, rfl, own5, gr5, at5⟩
      have ownI := hid (ownA.ins hk own5 gr5 at5)
      have bI := hid (((kN (.cells #[.int .i64 r, .slice none 0 0, .slice none 0 0] 77)).mono hB).grown gr5 hb5 (fun g hg => (owns_lt ownA.row g hg).1))
      clear own5 gr5 at5 ownA
      go_wp2
      exact bodyPost_ret (v := .tuple #[.slice a5 (n + 1) c5, .int .i64 k]) (by simp [results, Try.results47, go_sem]) rfl ⟨_, _, _, by rw [HY.out.1], by rw [HY.out.2]; exact ⟨_, ownI.out⟩, bI.out⟩

end Go.Proofs.Yteblnejpohjjmaa

/- enter: one more in a lock's queue. -/
namespace Go.Proofs.Yteblnejpohjjmaa
open Go.RowKit

theorem hcells_drop (hs : List Ch.Hold) (k : Nat) : hcells (hs.drop k) = (hcells hs).drop (k * 2) := by
  rcases Nat.lt_or_ge hs.length k with h | h
  · rw [List.drop_of_length_le (by omega), List.drop_of_length_le (by rw [hcells_len]; omega)]; rfl
  · have e : hcells hs = hcells (hs.take k) ++ hcells (hs.drop k) := by rw [← hcells_append, List.take_append_drop]
    have hl : (hcells (hs.take k)).length = k * 2 := by rw [hcells_len]; simp; omega
    rw [e]
    exact (List.drop_left' hl).symm
theorem Ch.lk_same (ls : List Ch.Lock) (k : Nat) : ls.set k (Ch.lkAt ls k) = ls := by
  rcases Nat.lt_or_ge k ls.length with h | h
  · unfold Ch.lkAt
    rw [List.getD_eq_getElem?_getD, List.getElem?_eq_getElem h]
    simp
  · exact List.set_eq_of_length_le h
theorem Ch.enter_full {l : Ch.Lock} {k : Nat} {h : Ch.Hold} (hq : 20 ≤ l.qs.length) : Ch.enterL l k h = (false, 2, l) := by unfold Ch.enterL; rw [if_pos hq]
theorem Ch.enter_room {l : Ch.Lock} {k : Nat} {h : Ch.Hold} (hq : ¬ 20 ≤ l.qs.length) : Ch.enterL l k h = (false, 0, ⟨l.r, l.hs, l.qs.take k ++ [h] ++ l.qs.drop k⟩) := by unfold Ch.enterL; rw [if_neg hq]

set_option linter.unusedSimpArgs false in
set_option maxRecDepth 20000 in
set_option maxHeartbeats 1000000 in
theorem enter_any (t m : Int) (j : Nat) (B o n cap k : Nat) (ls : List Ch.Lock) (vs : List (Value × Value)) (w : World) (own : OwnK 77 w B (.slice (some ⟨o, 0, none⟩) n cap) n ls vs) (hk : k < n) (hB : B ≤ w.heap.size) (hszh : (Ch.lkAt ls k).hs.length ≤ 1048576) (hszq : (Ch.lkAt ls k).qs.length ≤ 1048576) (hj : j ≤ (Ch.lkAt ls k).qs.length) :
    Calls Try.prog 83 #[.pointer (some ⟨o, k * 3 + 2, none⟩), .int .i64 j, .agg #[.int .i64 t, .int .i64 m]] w fun e w' => e = .returned (.int .i64 (Ch.enterL (Ch.lkAt ls k) j ⟨t, m⟩).2.1) ∧ ∃ vs', OwnK 77 w' B (.slice (some ⟨o, 0, none⟩) n cap) n (ls.set k (Ch.enterL (Ch.lkAt ls k) j ⟨t, m⟩).2.2) vs' ∧ Moved (.slice (some ⟨o, 0, none⟩) n cap) vs vs' w w' := by
  have HSM := hid (Ch.lk_same ls k)
  obtain ⟨ah, ch, aq, cq, hp, c0, c1, c2, f1, f2, o1, o2, ne, nr, ob1, ob2⟩ := own.one hk
  obtain ⟨l, HLK⟩ : ∃ l, Hid (Ch.lkAt ls k = l) := ⟨_, rfl⟩
  have hr0 : Hid ((Ch.lkAt ls k).r = l.r) := by show _ = _; rw [HLK.out]
  rw [HLK.out] at hp c0 c1 c2 o1 o2 ne nr hszh hszq hj HSM ⊢
  obtain ⟨r, lhs, lqs⟩ := l
  simp only at hp c0 c1 c2 o1 o2 ne nr hszh hszq hr0 hj
  have kA : ∀ q, Below w.heap.size w (w.alloc q) := fun q => (Below.refl _ _).alloc (Nat.le_refl _) q
  have lo := lt_of_cell c0
  by_cases h20 : 20 ≤ lqs.length
  · rw [Ch.enter_full (l := ⟨r, lhs, lqs⟩) h20]
    simp only
    rw [HSM.out]
    have e2 := keep_cell (kA (.cells #[.int .i64 t, .int .i64 m] 110)) c2
    have mv := hid (Moved.ofBelow (v := .slice (some ⟨o, 0, none⟩) n cap) (vs := vs) (kA (.cells #[.int .i64 t, .int .i64 m] 110)))
    have ownU := hid (own.below (kA (.cells #[.int .i64 t, .int .i64 m] 110)))
    go_enter Try.func83, Try.ntmps83
    go_wp2
    exact bodyPost_ret (v := .int .i64 2) (by simp [results, Try.results83, go_sem]) rfl ⟨rfl, _, ownU.out, mv.out⟩
  · rw [Ch.enter_room (l := ⟨r, lhs, lqs⟩) h20]
    simp only
    have HB := hid hB
    go_enter Try.func83, Try.ntmps83
    have c2' := keep_cell (kA (.cells #[.int .i64 t, .int .i64 m] 110)) c2
    go_wp2_with fail
    have y0 : (w.alloc (.cells #[.int .i64 t, .int .i64 m] 110)).cell? ⟨w.heap.size, 0, none⟩ = some (.int .i64 t) := by simp [go_sem]
    have y1 : (w.alloc (.cells #[.int .i64 t, .int .i64 m] 110)).cell? ⟨w.heap.size, 1, none⟩ = some (.int .i64 m) := by simp [go_sem]
    have kU := kA (.cells #[.int .i64 t, .int .i64 m] 110)
    generalize w.alloc (.cells #[.int .i64 t, .int .i64 m] 110) = U at *
    have kV : Below w.heap.size w U.drew := kU.drew
    have dd1 : U.drew.cell? ⟨o, k * 3 + 2, none⟩ = some (.slice aq lqs.length cq) := c2'
    have ff1 : U.drew.frozen? ⟨o, k * 3 + 2, none⟩ = false := ((bcell kU).2 o (k * 3 + 2) ob2).trans f2
    refine wp_region_noPanic ?_
    refine wp_region_held_drew (S := fun W' => W'.cell? ⟨w.heap.size, 0, none⟩ = some (.int .i64 t) ∧ W'.cell? ⟨w.heap.size, 1, none⟩ = some (.int .i64 m)) (by kernel_rfl) (⟨y0, y1⟩) (fun hH => ?_)
    generalize U.drew = V at *
    clear kU c2' y0 y1 U
    have hH0 := hH
    have lo2 : o < V.heap.size := lt_of_cell dd1
    have kN : Below V.heap.size V (V.alloc (.cells #[.int .i64 t, .int .i64 m] 110)) := (Below.refl _ _).alloc (Nat.le_refl _) _
    have kT : Below w.heap.size w (V.alloc (.cells #[.int .i64 t, .int .i64 m] 110)) := kV.alloc kV.size _
    have oN := owns_below o2 kT
    have hb3 : B ≤ (V.alloc (.cells #[.int .i64 t, .int .i64 m] 110)).heap.size := Nat.le_trans HB.out kT.size
    have hbx : (Value.slice aq lqs.length cq).ownBlock ≠ some w.heap.size := fun e => by have := (owns_lt o2 _ e).2; omega
    have hvb : (Value.slice aq lqs.length cq).ownBlock ≠ some V.heap.size := fun e => by have h1 := (owns_lt o2 _ e).2; have h2 := kV.size; omega
    refine hTake (i := 0) (v := ?_) rfl (by kernel_rfl) (by kernel_rfl) (by kernel_rfl) (by rfl) ?_ hH ?_
    rotate_left
    · intro W hW; (try dsimp only at hW); go_simp <;> with_reducible rfl
    simp only [Act.put, List.setIfInBounds_toArray, List.set_cons_zero, List.set_cons_succ]
    refine hTake (i := 1) (v := ?_) rfl (by kernel_rfl) (by kernel_rfl) (by kernel_rfl) (by rfl) ?_ hH ?_
    rotate_left
    · intro W hW; (try dsimp only at hW); go_simp <;> with_reducible rfl
    simp only [Act.put, List.setIfInBounds_toArray, List.set_cons_zero, List.set_cons_succ]
    refine hTake (i := 2) (v := ?_) rfl (by kernel_rfl) (by kernel_rfl) (by kernel_rfl) (by rfl) ?_ hH ?_
    rotate_left
    · intro W hW; (try dsimp only at hW); go_simp <;> with_reducible rfl
    simp only [Act.put, List.setIfInBounds_toArray, List.set_cons_zero, List.set_cons_succ]
    refine hTake (i := 3) (v := ?_) rfl (by kernel_rfl) (by kernel_rfl) (by kernel_rfl) (by rfl) ?_ hH ?_
    rotate_left
    · intro W hW; (try dsimp only at hW); go_simp <;> with_reducible rfl
    simp only [Act.put, List.setIfInBounds_toArray, List.set_cons_zero, List.set_cons_succ]
    refine hTake (i := 5) (v := ?_) rfl (by kernel_rfl) (by kernel_rfl) (by kernel_rfl) (by rfl) ?_ hH ?_
    rotate_left
    · intro W hW; (try dsimp only at hW); go_simp <;> with_reducible rfl
    simp only [Act.put, List.setIfInBounds_toArray, List.set_cons_zero, List.set_cons_succ]
    refine hTake (i := 6) (v := ?_) rfl (by kernel_rfl) (by kernel_rfl) (by kernel_rfl) (by rfl) ?_ hH ?_
    rotate_left
    · intro W hW; (try dsimp only at hW); go_simp <;> with_reducible rfl
    simp only [Act.put, List.setIfInBounds_toArray, List.set_cons_zero, List.set_cons_succ]
    refine wpAnyH_ready (rs := [4, 7]) (by kernel_rfl) (by simp) ?_
    refine AllReadyH.cons rfl (fun K hK => ?_) (AllReadyH.cons rfl (fun K hK => ?_) AllReadyH.nil)
    · have e1 : V.cell? ⟨o, k * 3 + 2, none⟩ = some (.slice aq lqs.length cq) := dd1
      go_simp
      refine hK.out _ _ hH (fun hH => ?_)
      clear hK K
      refine wpAnyH_ready (rs := [7]) (by kernel_rfl) (by simp) ?_
      refine AllReadyH.cons rfl (fun K hK => ?_) AllReadyH.nil
      go_simp
      refine hK.out _ _ ⟨keep_cell kN hH.1, keep_cell kN hH.2⟩ (fun hH => ?_)
      clear hK K
      refine wpAnyH_ready (rs := [8]) (by kernel_rfl) (by simp) ?_
      refine AllReadyH.cons rfl (fun K hK => ?_) AllReadyH.nil
      go_simp
      refine (insertH_any B aq lqs.length cq j V.heap.size (hcells lqs) [.int .i64 t, .int .i64 m] _ oN (heap_alloc_new _ _) rfl (hcells_one' [⟨t, m⟩]) (hcells_one' lqs) hszq hj hb3 hvb).mono ?_
      rintro e w5 ⟨a5, c5, rfl, own5, gr5, at5⟩
      have d1 := (grown_cell gr5 (keep_cell kN dd1) (fun e => nr (by simp [blks, e])))
      have g1 := (gr5.frozen_far ⟨o, k * 3 + 2, none⟩ (Nat.lt_of_lt_of_le lo2 kN.size) (by show some o ≠ _; exact fun e => nr (by simp [blks, e.symm]))).trans (((bcell kN).2 o (k * 3 + 2) lo2).trans ff1)
      have lo5 := lt_of_cell d1
      go_wp2_with fail
      refine hK.out _ _ ⟨grown_cell gr5 (keep_cell kN hH0.1) hbx, grown_cell gr5 (keep_cell kN hH0.2) hbx⟩ (fun hH => ?_)
      clear hK K
      refine hTake (i := 9) (v := ?_) rfl (by kernel_rfl) (by kernel_rfl) (by kernel_rfl) (by rfl) ?_ hH ?_
      rotate_left
      · intro W hW; (try dsimp only at hW); go_simp <;> with_reducible rfl
      simp only [Act.put, List.setIfInBounds_toArray, List.set_cons_zero, List.set_cons_succ]
      refine hTake (i := 10) (v := ?_) rfl (by kernel_rfl) (by kernel_rfl) (by kernel_rfl) (by rfl) ?_ hH ?_
      rotate_left
      · intro W hW; (try dsimp only at hW); go_simp <;> with_reducible rfl
      simp only [Act.put, List.setIfInBounds_toArray, List.set_cons_zero, List.set_cons_succ]
      refine wpAnyH_ready (rs := [11]) (by kernel_rfl) (by simp) ?_
      refine AllReadyH.cons rfl (fun K hK => ?_) AllReadyH.nil
      go_simp
      refine hK.out _ _ (by first | (go_simp; done) | exact ⟨by rw [World.cell?_setCell_other _ _ _ _ (by simp; omega)]; exact hH.1, by rw [World.cell?_setCell_other _ _ _ _ (by simp; omega)]; exact hH.2⟩) (fun hH => ?_)
      clear hK K
      refine wpAnyH_done (by kernel_rfl) ?_ _
      refine NoPanic.normal ?_
      rw [show [Value.int .i64 t, .int .i64 m] = hcells [⟨t, m⟩] from rfl, ← hcells_take, ← hcells_drop, ← hcells_append, ← hcells_append] at own5
      have grT : w.grownBy w5 (Value.slice aq lqs.length cq).ownBlock := ⟨gr5.os.trans kT.os, gr5.tape.trans kT.tape, gr5.output.trans kT.output, Nat.le_trans kT.size gr5.size, fun q hq hne => (gr5.block q (Nat.lt_of_lt_of_le hq kT.size) hne).trans (kT.block q hq)⟩
      have hf : ∀ g ∈ blks (.slice ah lhs.length ch, .slice a5 (lqs.length + 1) c5), g ∈ blks (.slice ah lhs.length ch, .slice aq lqs.length cq) ∨ w.heap.size ≤ g := by
        intro g hg
        simp only [blks, List.mem_append, Option.mem_toList] at hg ⊢
        rcases hg with hg | hg
        · exact .inl (.inl hg)
        · rcases at5 g hg with h1 | h1
          · exact .inl (.inr h1)
          · exact .inr (Nat.le_trans kT.size h1)
      have o1' : w5.ownsRow B 110 2 (.slice ah lhs.length ch) lhs.length (hcells lhs) := owns_grown o1 grT (fun g hg e => ne g hg e)
      have hlen : (lqs.take j ++ ([⟨t, m⟩] : List Ch.Hold) ++ lqs.drop j).length = lqs.length + 1 := by simp; omega
      have own6 := hid (own.swap (j := 2) (z := .slice a5 (lqs.length + 1) c5) hp grT (fun g hg => by simp [blks, hg]) (l := ⟨r, lhs, lqs.take j ++ [⟨t, m⟩] ++ lqs.drop j⟩) hr0.out.symm o1' (by simp only [hlen]; exact own5) (fun g h1 h2 => by
        rcases at5 g h2 with h3 | h3
        · exact ne g h1 h3
        · exact absurd (owns_lt o1 g h1).2 (Nat.not_lt_of_le (Nat.le_trans kT.size h3))) hf (.inr ⟨rfl, rfl, rfl⟩))
      have hst := (owns_grown own.row grT (fun g hg e => by cases hg; exact nr (by simp [blks, e]))).stored (k * 3 + 2) (.slice a5 (lqs.length + 1) c5)
      have mv := hid (moved_two (v := .slice (some ⟨o, 0, none⟩) n cap) (vs' := vs.set k (.slice ah lhs.length ch, .slice a5 (lqs.length + 1) c5)) hp rfl grT hst.2 (fun g hg => by simp [blks, hg]) rfl hf)
      clear own5 hf hst grT gr5 at5 o1'
      go_wp2
      exact bodyPost_ret (v := .int .i64 0) (by simp [results, Try.results83, go_sem]) rfl ⟨rfl, _, own6.out, mv.out⟩
    · go_simp
      refine hK.out _ _ ⟨keep_cell kN hH.1, keep_cell kN hH.2⟩ (fun hH => ?_)
      clear hK K
      refine wpAnyH_ready (rs := [4]) (by kernel_rfl) (by simp) ?_
      refine AllReadyH.cons rfl (fun K hK => ?_) AllReadyH.nil
      have e1 := keep_cell kN dd1
      go_simp
      refine hK.out _ _ hH (fun hH => ?_)
      clear hK K
      refine wpAnyH_ready (rs := [8]) (by kernel_rfl) (by simp) ?_
      refine AllReadyH.cons rfl (fun K hK => ?_) AllReadyH.nil
      go_simp
      refine (insertH_any B aq lqs.length cq j V.heap.size (hcells lqs) [.int .i64 t, .int .i64 m] _ oN (heap_alloc_new _ _) rfl (hcells_one' [⟨t, m⟩]) (hcells_one' lqs) hszq hj hb3 hvb).mono ?_
      rintro e w5 ⟨a5, c5, rfl, own5, gr5, at5⟩
      have d1 := (grown_cell gr5 (keep_cell kN dd1) (fun e => nr (by simp [blks, e])))
      have g1 := (gr5.frozen_far ⟨o, k * 3 + 2, none⟩ (Nat.lt_of_lt_of_le lo2 kN.size) (by show some o ≠ _; exact fun e => nr (by simp [blks, e.symm]))).trans (((bcell kN).2 o (k * 3 + 2) lo2).trans ff1)
      have lo5 := lt_of_cell d1
      go_wp2_with fail
      refine hK.out _ _ ⟨grown_cell gr5 (keep_cell kN hH0.1) hbx, grown_cell gr5 (keep_cell kN hH0.2) hbx⟩ (fun hH => ?_)
      clear hK K
      refine hTake (i := 9) (v := ?_) rfl (by kernel_rfl) (by kernel_rfl) (by kernel_rfl) (by rfl) ?_ hH ?_
      rotate_left
      · intro W hW; (try dsimp only at hW); go_simp <;> with_reducible rfl
      simp only [Act.put, List.setIfInBounds_toArray, List.set_cons_zero, List.set_cons_succ]
      refine hTake (i := 10) (v := ?_) rfl (by kernel_rfl) (by kernel_rfl) (by kernel_rfl) (by rfl) ?_ hH ?_
      rotate_left
      · intro W hW; (try dsimp only at hW); go_simp <;> with_reducible rfl
      simp only [Act.put, List.setIfInBounds_toArray, List.set_cons_zero, List.set_cons_succ]
      refine wpAnyH_ready (rs := [11]) (by kernel_rfl) (by simp) ?_
      refine AllReadyH.cons rfl (fun K hK => ?_) AllReadyH.nil
      go_simp
      refine hK.out _ _ (by first | (go_simp; done) | exact ⟨by rw [World.cell?_setCell_other _ _ _ _ (by simp; omega)]; exact hH.1, by rw [World.cell?_setCell_other _ _ _ _ (by simp; omega)]; exact hH.2⟩) (fun hH => ?_)
      clear hK K
      refine wpAnyH_done (by kernel_rfl) ?_ _
      refine NoPanic.normal ?_
      rw [show [Value.int .i64 t, .int .i64 m] = hcells [⟨t, m⟩] from rfl, ← hcells_take, ← hcells_drop, ← hcells_append, ← hcells_append] at own5
      have grT : w.grownBy w5 (Value.slice aq lqs.length cq).ownBlock := ⟨gr5.os.trans kT.os, gr5.tape.trans kT.tape, gr5.output.trans kT.output, Nat.le_trans kT.size gr5.size, fun q hq hne => (gr5.block q (Nat.lt_of_lt_of_le hq kT.size) hne).trans (kT.block q hq)⟩
      have hf : ∀ g ∈ blks (.slice ah lhs.length ch, .slice a5 (lqs.length + 1) c5), g ∈ blks (.slice ah lhs.length ch, .slice aq lqs.length cq) ∨ w.heap.size ≤ g := by
        intro g hg
        simp only [blks, List.mem_append, Option.mem_toList] at hg ⊢
        rcases hg with hg | hg
        · exact .inl (.inl hg)
        · rcases at5 g hg with h1 | h1
          · exact .inl (.inr h1)
          · exact .inr (Nat.le_trans kT.size h1)
      have o1' : w5.ownsRow B 110 2 (.slice ah lhs.length ch) lhs.length (hcells lhs) := owns_grown o1 grT (fun g hg e => ne g hg e)
      have hlen : (lqs.take j ++ ([⟨t, m⟩] : List Ch.Hold) ++ lqs.drop j).length = lqs.length + 1 := by simp; omega
      have own6 := hid (own.swap (j := 2) (z := .slice a5 (lqs.length + 1) c5) hp grT (fun g hg => by simp [blks, hg]) (l := ⟨r, lhs, lqs.take j ++ [⟨t, m⟩] ++ lqs.drop j⟩) hr0.out.symm o1' (by simp only [hlen]; exact own5) (fun g h1 h2 => by
        rcases at5 g h2 with h3 | h3
        · exact ne g h1 h3
        · exact absurd (owns_lt o1 g h1).2 (Nat.not_lt_of_le (Nat.le_trans kT.size h3))) hf (.inr ⟨rfl, rfl, rfl⟩))
      have hst := (owns_grown own.row grT (fun g hg e => by cases hg; exact nr (by simp [blks, e]))).stored (k * 3 + 2) (.slice a5 (lqs.length + 1) c5)
      have mv := hid (moved_two (v := .slice (some ⟨o, 0, none⟩) n cap) (vs' := vs.set k (.slice ah lhs.length ch, .slice a5 (lqs.length + 1) c5)) hp rfl grT hst.2 (fun g hg => by simp [blks, hg]) rfl hf)
      clear own5 hf hst grT gr5 at5 o1'
      go_wp2
      exact bodyPost_ret (v := .int .i64 0) (by simp [results, Try.results83, go_sem]) rfl ⟨rfl, _, own6.out, mv.out⟩

end Go.Proofs.Yteblnejpohjjmaa


/- JoinModes of the program: the set of those that cover both. -/
namespace Go.Proofs.Yteblnejpohjjmaa
open Go.RowKit

/-- k covers both. -/
def Ch.both (a b : Int) (k : Nat) : Bool := Ch.tab Ch.covT k a && Ch.tab Ch.covT k b

theorem neqSet (x0 x1 x2 x3 x4 x5 y0 y1 y2 y3 y4 y5 : Bool) (w : World) :
    (binOp .neq 89 (.agg #[.bool x0, .bool x1, .bool x2, .bool x3, .bool x4, .bool x5]) (.agg #[.bool y0, .bool y1, .bool y2, .bool y3, .bool y4, .bool y5])).run Try.prog w
      = .ok (.bool (!(x0 == y0 && x1 == y1 && x2 == y2 && x3 == y3 && x4 == y4 && x5 == y5))) w := by
  have hu : Try.prog.underlying 89 = some (.array 6 4) := by kernel_rfl
  have hc : Try.prog.cellsOf 4 = 1 := by kernel_rfl
  obtain ⟨i, hi⟩ : ∃ i, Try.prog.info? 4 = some i := Option.isSome_iff_exists.1 (by kernel_rfl)
  have u4 := Try.underlying4
  have a4 := Try.isAgg4
  have z4 := Try.sizeOf4
  rw [run_neq_struct, show (10000 : Nat) = 9999 + 1 from rfl, run_equalIn_array w 9999 _ _ hu hi, hc]
  simp only [List.range, List.range.loop, Op.eqItems]
  clear hi hc hu
  go_simp
  cases x0 <;> cases y0 <;> (try rfl) <;> cases x1 <;> cases y1 <;> (try rfl) <;> cases x2 <;> cases y2 <;> (try rfl) <;> cases x3 <;> cases y3 <;> (try rfl) <;> cases x4 <;> cases y4 <;> (try rfl) <;> cases x5 <;> cases y5 <;> rfl

theorem covAt {a b : Int} (ha : Ch.isM a = true) (hb : Ch.isM b = true) (w : World) :
    Calls Try.prog 18 #[.int .i64 a, .int .i64 b] w fun e w' => e = .returned (.bool (Ch.tab Ch.covT a b)) ∧ Below w.heap.size w w' := by
  have := implCov_any a b w
  rw [ha, hb] at this
  exact this

theorem isM_nat {k : Nat} (h : k < 6) : Ch.isM k = true := by simp [Ch.isM, Ch.inB]; omega

/-- The cells of a set that is filled up to k. -/
def SetAt (w : World) (g : Nat) (a b : Int) (k : Nat) : Prop :=
  ∀ i : Nat, i < 6 → w.cell? ⟨g, i, none⟩ = some (.bool (decide (i < k) && Ch.both a b i)) ∧ w.frozen? ⟨g, i, none⟩ = false

theorem SetAt.below {w w' : World} {g : Nat} {a b : Int} {k : Nat} (h : SetAt w g a b k) (hb : Below w.heap.size w w') : SetAt w' g a b k := fun i hi =>
  ⟨keep_cell hb (h i hi).1, ((bcell hb).2 g i (lt_of_cell (h i hi).1)).trans (h i hi).2⟩
theorem SetAt.set {w : World} {g : Nat} {a b : Int} {k : Nat} (h : SetAt w g a b k) (hk : k < 6) : SetAt (w.setCell ⟨g, k, none⟩ (.bool (Ch.both a b k))) g a b (k + 1) := fun i hi => by
  refine ⟨?_, by rw [World.frozen?_setCell]; exact (h i hi).2⟩
  by_cases hik : k = i
  · subst hik
    rw [World.cell?_setCell_same _ _ _ (h k hk).1]
    simp
  · rw [World.cell?_setCell_other _ _ _ _ (by simp), (h i hi).1]
    have : decide (i < k + 1) = decide (i < k) := by
      by_cases h1 : i < k
      · simp [h1, show i < k + 1 by omega]
      · simp [h1, show ¬ i < k + 1 by omega]
    rw [this]
theorem SetAt.far {w : World} {g g' j : Nat} {a b : Int} {k : Nat} {v : Value} (h : SetAt w g a b k) (hne : g' ≠ g) : SetAt (w.setCell ⟨g', j, none⟩ v) g a b k := fun i hi => by
  refine ⟨?_, by rw [World.frozen?_setCell]; exact (h i hi).2⟩
  rw [World.cell?_setCell_other _ _ _ _ (by simp)]
  exact (h i hi).1

theorem SetAt.full {w : World} {g : Nat} {a b : Int} (h : SetAt w g a b 6) : w.cell? ⟨g, 0, none⟩ = some (.bool (Ch.both a b 0)) ∧ w.cell? ⟨g, 1, none⟩ = some (.bool (Ch.both a b 1)) ∧ w.cell? ⟨g, 2, none⟩ = some (.bool (Ch.both a b 2)) ∧ w.cell? ⟨g, 3, none⟩ = some (.bool (Ch.both a b 3)) ∧ w.cell? ⟨g, 4, none⟩ = some (.bool (Ch.both a b 4)) ∧ w.cell? ⟨g, 5, none⟩ = some (.bool (Ch.both a b 5)) :=
  ⟨(h 0 (by omega)).1, (h 1 (by omega)).1, (h 2 (by omega)).1, (h 3 (by omega)).1, (h 4 (by omega)).1, (h 5 (by omega)).1⟩

set_option maxHeartbeats 1000000 in
theorem coverBoth_any (a b : Int) (w : World) (ha : Ch.isM a = true) (hb : Ch.isM b = true) :
    Calls Try.prog 112 #[.int .i64 a, .int .i64 b] w fun e w' => e = .returned (.agg #[.bool (Ch.both a b 0), .bool (Ch.both a b 1), .bool (Ch.both a b 2), .bool (Ch.both a b 3), .bool (Ch.both a b 4), .bool (Ch.both a b 5)]) ∧ Below w.heap.size w w' := by
  go_enter Try.func112, Try.ntmps112
  go_wp2_with fail
  have hT : Below w.heap.size w ((w.alloc (.cells #[.bool false, .bool false, .bool false, .bool false, .bool false, .bool false] 89)).alloc (.cells #[.bool false, .bool false, .bool false, .bool false, .bool false, .bool false] 89)) := ((Below.refl _ _).alloc (Nat.le_refl _) _).alloc (by simp) _
  go_loopw [7] (fun i wr => ∃ k : Nat, k ≤ 6 ∧ i = .int .i64 k ∧ SetAt wr (w.heap.size + 1) a b k ∧ SetAt wr w.heap.size a b 0 ∧ Below w.heap.size w wr) (fun i _ => 6 - (intOf i).toNat)
  case atStart =>
    refine ⟨0, by omega, rfl, ?_, ?_, hT⟩
    all_goals
      intro i hi
      have : i = 0 ∨ i = 1 ∨ i = 2 ∨ i = 3 ∨ i = 4 ∨ i = 5 := by omega
      rcases this with rfl | rfl | rfl | rfl | rfl | rfl
      all_goals exact ⟨by go_simp, by go_simp⟩
  case round =>
    obtain ⟨k, hk, rfl, S1, S0, hB⟩ := hrel
    clear hT
    by_cases hlt : k < 6
    · have HA := fun W => covAt (isM_nat hlt) ha W
      have HB := fun W => covAt (isM_nat hlt) hb W
      have hV : Hid (Ch.both a b k = (Ch.tab Ch.covT k a && Ch.tab Ch.covT k b)) := rfl
      generalize Ch.tab Ch.covT k a = p at *
      generalize Ch.tab Ch.covT k b = q at *
      have hkl : (k : Int) < 6 := by omega
      clear ha hb
      cases p
      · go_wp2_with fail
        refine (HA _).mono ?_
        rintro e w2 ⟨rfl, b2⟩
        obtain ⟨c1, f1⟩ := (S1.below b2) k hlt
        have P1 := (S1.below b2).set hlt
        have P0 := (S0.below b2).far (g' := w.heap.size + 1) (j := k) (v := .bool (Ch.both a b k)) (by omega)
        rw [hV.out] at P1 P0
        have B2 := hB.trans (b2.mono hB.size)
        clear S1 S0
        go_wp2_with fail
        go_roundw
        case rel => exact ⟨k + 1, by omega, by go_num, P1, P0, B2.setCell (p := ⟨w.heap.size + 1, k, none⟩) (by simp) _⟩
        case measure => simp [intOf]; omega
      · go_wp2_with fail
        refine (HA _).mono ?_
        rintro e w1 ⟨rfl, b1⟩
        go_wp2_with fail
        refine (HB _).mono ?_
        rintro e w2 ⟨rfl, b2⟩
        obtain ⟨c1, f1⟩ := ((S1.below b1).below b2) k hlt
        have P1 := ((S1.below b1).below b2).set hlt
        have P0 := ((S0.below b1).below b2).far (g' := w.heap.size + 1) (j := k) (v := .bool (Ch.both a b k)) (by omega)
        rw [hV.out] at P1 P0
        have B1 := hB.trans (b1.mono hB.size)
        have B2 := B1.trans (b2.mono B1.size)
        clear S1 S0
        go_wp2_with fail
        go_roundw
        case rel => exact ⟨k + 1, by omega, by go_num, P1, P0, B2.setCell (p := ⟨w.heap.size + 1, k, none⟩) (by simp) _⟩
        case measure => simp [intOf]; omega
    · obtain rfl : k = 6 := by omega
      obtain ⟨x0, x1, x2, x3, x4, x5⟩ := S1.full
      obtain ⟨y0, z0⟩ := S0 0 (by omega)
      obtain ⟨y1, z1⟩ := S0 1 (by omega)
      obtain ⟨y2, z2⟩ := S0 2 (by omega)
      obtain ⟨y3, z3⟩ := S0 3 (by omega)
      obtain ⟨y4, z4⟩ := S0 4 (by omega)
      obtain ⟨y5, z5⟩ := S0 5 (by omega)
      obtain ⟨v0, hv0⟩ : ∃ v, Hid (Ch.both a b 0 = v) := ⟨_, rfl⟩
      rw [hv0.out] at x0
      obtain ⟨v1, hv1⟩ : ∃ v, Hid (Ch.both a b 1 = v) := ⟨_, rfl⟩
      rw [hv1.out] at x1
      obtain ⟨v2, hv2⟩ : ∃ v, Hid (Ch.both a b 2 = v) := ⟨_, rfl⟩
      rw [hv2.out] at x2
      obtain ⟨v3, hv3⟩ : ∃ v, Hid (Ch.both a b 3 = v) := ⟨_, rfl⟩
      rw [hv3.out] at x3
      obtain ⟨v4, hv4⟩ : ∃ v, Hid (Ch.both a b 4 = v) := ⟨_, rfl⟩
      rw [hv4.out] at x4
      obtain ⟨v5, hv5⟩ : ∃ v, Hid (Ch.both a b 5 = v) := ⟨_, rfl⟩
      rw [hv5.out] at x5
      clear S1 S0 ha hb
      go_wp2_with fail
      refine bodyPost_ret (v := .agg #[.bool v0, .bool v1, .bool v2, .bool v3, .bool v4, .bool v5]) (by simp [results, Try.results112, go_sem, y0, y1, y2, y3, y4, y5]) rfl ⟨by rw [hv0.out, hv1.out, hv2.out, hv3.out, hv4.out, hv5.out], ?_⟩
      exact (((((hB.setCell (p := ⟨w.heap.size, 0, none⟩) (Nat.le_refl _) _).setCell (p := ⟨w.heap.size, 1, none⟩) (Nat.le_refl _) _).setCell (p := ⟨w.heap.size, 2, none⟩) (Nat.le_refl _) _).setCell (p := ⟨w.heap.size, 3, none⟩) (Nat.le_refl _) _).setCell (p := ⟨w.heap.size, 4, none⟩) (Nat.le_refl _) _).setCell (p := ⟨w.heap.size, 5, none⟩) (Nat.le_refl _) _
end Go.Proofs.Yteblnejpohjjmaa


/- JoinModes of the program. -/
namespace Go.Proofs.Yteblnejpohjjmaa
open Go.RowKit

/-- Two sets are the same. -/
def Ch.sameSet (a b c d : Int) : Bool := Ch.both a b 0 == Ch.both c d 0 && Ch.both a b 1 == Ch.both c d 1 && Ch.both a b 2 == Ch.both c d 2 && Ch.both a b 3 == Ch.both c d 3 && Ch.both a b 4 == Ch.both c d 4 && Ch.both a b 5 == Ch.both c d 5
theorem Ch.join_set {a b m : Int} (ha : Ch.isM a = true) (hb : Ch.isM b = true) (hm : Ch.isM m = true) : Ch.sameSet m m a b = decide (m = Ch.join a b) := by
  rcases Ch.mode_cases ha with rfl | rfl | rfl | rfl | rfl | rfl
  all_goals rcases Ch.mode_cases hb with rfl | rfl | rfl | rfl | rfl | rfl
  all_goals rcases Ch.mode_cases hm with rfl | rfl | rfl | rfl | rfl | rfl
  all_goals rfl
theorem Ch.join_isM {a b : Int} (ha : Ch.isM a = true) (hb : Ch.isM b = true) : Ch.isM (Ch.join a b) = true := by
  rcases Ch.mode_cases ha with rfl | rfl | rfl | rfl | rfl | rfl
  all_goals rcases Ch.mode_cases hb with rfl | rfl | rfl | rfl | rfl | rfl
  all_goals rfl
def joinR (a b : Int) : Value := if Ch.isM a && Ch.isM b then .agg #[.int .i64 0, .int .i64 (Ch.join a b)] else .agg #[.int .i64 3, .int .i64 0]

set_option maxRecDepth 20000 in
set_option maxHeartbeats 1000000 in
theorem implJoin_no (a b : Int) (w : World) (h : (Ch.isM a && Ch.isM b) = false) :
    Calls Try.prog 81 #[.int .i64 a, .int .i64 b] w fun e w' => e = .returned (.agg #[.int .i64 3, .int .i64 0]) ∧ Below w.heap.size w w' := by
  cases ha : Ch.isM a
  · go_enter Try.func81, Try.ntmps81
    go_wp2_with (go_at_call 59; refine (isModeAt ha _).mono ?_; rintro e w' ⟨rfl, rfl⟩)
    exact bodyPost_ret (v := .agg #[.int .i64 3, .int .i64 0]) (by simp [results, Try.results81, go_sem]) rfl ⟨rfl, (Below.refl _ _).alloc (Nat.le_refl _) _⟩
  cases hb : Ch.isM b
  · clear h
    go_enter Try.func81, Try.ntmps81
    go_wp2_with (go_at_call 59; first | refine (isModeAt ha _).mono ?_ | refine (isModeAt hb _).mono ?_
                 rintro e w' ⟨rfl, rfl⟩)
    exact bodyPost_ret (v := .agg #[.int .i64 3, .int .i64 0]) (by simp [results, Try.results81, go_sem]) rfl ⟨rfl, (Below.refl _ _).alloc (Nat.le_refl _) _⟩
  · rw [ha, hb] at h; cases h

set_option maxRecDepth 20000 in
set_option maxHeartbeats 4000000 in
theorem implJoin_ok (a b : Int) (w : World) (ha : Ch.isM a = true) (hb : Ch.isM b = true) :
    Calls Try.prog 81 #[.int .i64 a, .int .i64 b] w fun e w' => e = .returned (.agg #[.int .i64 0, .int .i64 (Ch.join a b)]) ∧ Below w.heap.size w w' := by
  have HJ : Hid (∀ m : Int, Ch.isM m = true → Ch.sameSet m m a b = decide (m = Ch.join a b)) := fun m hm => Ch.join_set ha hb hm
  obtain ⟨j0, j1⟩ := Ch.mode_bd (Ch.join_isM ha hb)
  generalize Ch.join a b = jj at *
  obtain ⟨j, rfl⟩ := Int.eq_ofNat_of_zero_le j0
  have CB := fun W => coverBoth_any a b W ha hb
  have HQ : Hid (∀ m : Int, Ch.sameSet m m a b = (Ch.both m m 0 == Ch.both a b 0 && Ch.both m m 1 == Ch.both a b 1 && Ch.both m m 2 == Ch.both a b 2 && Ch.both m m 3 == Ch.both a b 3 && Ch.both m m 4 == Ch.both a b 4 && Ch.both m m 5 == Ch.both a b 5)) := fun _ => rfl
  obtain ⟨v0, hv0⟩ : ∃ v, Hid (Ch.both a b 0 = v) := ⟨_, rfl⟩
  obtain ⟨v1, hv1⟩ : ∃ v, Hid (Ch.both a b 1 = v) := ⟨_, rfl⟩
  obtain ⟨v2, hv2⟩ : ∃ v, Hid (Ch.both a b 2 = v) := ⟨_, rfl⟩
  obtain ⟨v3, hv3⟩ : ∃ v, Hid (Ch.both a b 3 = v) := ⟨_, rfl⟩
  obtain ⟨v4, hv4⟩ : ∃ v, Hid (Ch.both a b 4 = v) := ⟨_, rfl⟩
  obtain ⟨v5, hv5⟩ : ∃ v, Hid (Ch.both a b 5 = v) := ⟨_, rfl⟩
  rw [hv0.out, hv1.out, hv2.out, hv3.out, hv4.out, hv5.out] at CB
  have HN : Hid (∀ m : Int, Ch.isM m = true → (!(Ch.both m m 0 == v0 && Ch.both m m 1 == v1 && Ch.both m m 2 == v2 && Ch.both m m 3 == v3 && Ch.both m m 4 == v4 && Ch.both m m 5 == v5)) = !decide (m = (j : Int))) := fun m hm => by
    rw [← HJ.out m hm, HQ.out m, hv0.out, hv1.out, hv2.out, hv3.out, hv4.out, hv5.out]
  clear HJ HQ hv0 hv1 hv2 hv3 hv4 hv5
  go_enter Try.func81, Try.ntmps81
  go_wp2_with (first | (go_at_call 59; first | refine (isModeAt ha _).mono ?_ | refine (isModeAt hb _).mono ?_
                        rintro e w' ⟨rfl, rfl⟩) | (go_at_call 112; refine (CB _).mono ?_; rintro e w1 ⟨rfl, b1⟩))
  have r0 := box_cell b1 0
  have r1 := box_cell b1 1
  simp at r0 r1
  have f0 := (bcell b1).2 w.heap.size 0 (by simp)
  have f1 := (bcell b1).2 w.heap.size 1 (by simp)
  have bE := below_box b1
  have z1 := bE.size
  have z0 := lt_of_cell r0
  go_loopw [6] (fun i wr => ∃ k : Nat, k ≤ j ∧ i = .int .i64 k ∧ wr.cell? ⟨w1.heap.size, 0, none⟩ = some (.bool v0) ∧ wr.cell? ⟨w1.heap.size, 1, none⟩ = some (.bool v1) ∧ wr.cell? ⟨w1.heap.size, 2, none⟩ = some (.bool v2) ∧ wr.cell? ⟨w1.heap.size, 3, none⟩ = some (.bool v3) ∧ wr.cell? ⟨w1.heap.size, 4, none⟩ = some (.bool v4) ∧ wr.cell? ⟨w1.heap.size, 5, none⟩ = some (.bool v5) ∧ wr.cell? ⟨w.heap.size, 0, none⟩ = some (.int .i64 0) ∧ wr.cell? ⟨w.heap.size, 1, none⟩ = some (.int .i64 0) ∧ wr.frozen? ⟨w.heap.size, 0, none⟩ = false ∧ wr.frozen? ⟨w.heap.size, 1, none⟩ = false ∧ Below w.heap.size w wr) (fun i _ => 6 - (intOf i).toNat)
  case atStart =>
    refine ⟨0, Nat.zero_le _, rfl, ?_, ?_, ?_, ?_, ?_, ?_, ?_, ?_, ?_, ?_, bE.alloc (by omega) _⟩
    all_goals go_simp
  case round =>
    obtain ⟨k, hk, rfl, x0, x1, x2, x3, x4, x5, y0, y1, g0, g1, hB⟩ := hrel
    generalize w1.heap.size = g at *
    have hk6 : k < 6 := by omega
    by_cases hlt : k < 5
    · have hki : (k : Int) < 5 := by omega
      have hN := HN.out k (isM_nat hk6)
      have neq := fun W => neqSet (Ch.both k k 0) (Ch.both k k 1) (Ch.both k k 2) (Ch.both k k 3) (Ch.both k k 4) (Ch.both k k 5) v0 v1 v2 v3 v4 v5 W
      rw [hN] at neq
      obtain ⟨t, ht⟩ : ∃ t, Hid ((!decide ((k : Int) = (j : Int))) = t) := ⟨_, rfl⟩
      rw [ht.out] at neq
      clear hN HN
      go_upto_region 5 with fail
      have HS : Hid (∀ W', Below wr.heap.size wr W' → W'.cell? ⟨g, 0, none⟩ = some (.bool v0) ∧ W'.cell? ⟨g, 1, none⟩ = some (.bool v1) ∧ W'.cell? ⟨g, 2, none⟩ = some (.bool v2) ∧ W'.cell? ⟨g, 3, none⟩ = some (.bool v3) ∧ W'.cell? ⟨g, 4, none⟩ = some (.bool v4) ∧ W'.cell? ⟨g, 5, none⟩ = some (.bool v5) ∧ Below wr.heap.size wr W') := fun W' hb' => ⟨keep_cell hb' x0, keep_cell hb' x1, keep_cell hb' x2, keep_cell hb' x3, keep_cell hb' x4, keep_cell hb' x5, hb'⟩
      refine wp_region_noPanic ?_
      refine wp_region_held_drew (S := fun W' => W'.cell? ⟨g, 0, none⟩ = some (.bool v0) ∧ W'.cell? ⟨g, 1, none⟩ = some (.bool v1) ∧ W'.cell? ⟨g, 2, none⟩ = some (.bool v2) ∧ W'.cell? ⟨g, 3, none⟩ = some (.bool v3) ∧ W'.cell? ⟨g, 4, none⟩ = some (.bool v4) ∧ W'.cell? ⟨g, 5, none⟩ = some (.bool v5) ∧ Below wr.heap.size wr W') (by kernel_rfl) (HS.out _ (Below.refl _ _).drew) (fun hH => ?_)
      refine hTake (i := 0) (v := ?_) rfl (by kernel_rfl) (by kernel_rfl) (by kernel_rfl) (by rfl) ?_ hH ?_
      rotate_left
      · intro W hW; (try dsimp only at hW); go_simp <;> with_reducible rfl
      simp only [Act.put, List.setIfInBounds_toArray, List.set_cons_zero, List.set_cons_succ]
      refine hTake (i := 1) (v := ?_) rfl (by kernel_rfl) (by kernel_rfl) (by kernel_rfl) (by rfl) ?_ hH ?_
      rotate_left
      · intro W hW; (try dsimp only at hW); go_simp <;> with_reducible rfl
      simp only [Act.put, List.setIfInBounds_toArray, List.set_cons_zero, List.set_cons_succ]
      refine hTake (i := 2) (v := ?_) rfl (by kernel_rfl) (by kernel_rfl) (by kernel_rfl) (by rfl) ?_ hH ?_
      rotate_left
      · intro W hW; (try dsimp only at hW); go_simp <;> with_reducible rfl
      simp only [Act.put, List.setIfInBounds_toArray, List.set_cons_zero, List.set_cons_succ]
      refine hTake (i := 3) (v := ?_) rfl (by kernel_rfl) (by kernel_rfl) (by kernel_rfl) (by rfl) ?_ hH ?_
      rotate_left
      · intro W hW; (try dsimp only at hW); go_simp <;> with_reducible rfl
      simp only [Act.put, List.setIfInBounds_toArray, List.set_cons_zero, List.set_cons_succ]
      refine hTake (i := 4) (v := ?_) rfl (by kernel_rfl) (by kernel_rfl) (by kernel_rfl) (by rfl) ?_ hH ?_
      rotate_left
      · intro W hW; (try dsimp only at hW); go_simp <;> with_reducible rfl
      simp only [Act.put, List.setIfInBounds_toArray, List.set_cons_zero, List.set_cons_succ]
      refine hTake (i := 6) (v := ?_) rfl (by kernel_rfl) (by kernel_rfl) (by kernel_rfl) (by rfl) ?_ hH ?_
      rotate_left
      · intro W hW; (try dsimp only at hW); go_simp <;> with_reducible rfl
      simp only [Act.put, List.setIfInBounds_toArray, List.set_cons_zero, List.set_cons_succ]
      refine wpAnyH_ready (rs := [5]) (by kernel_rfl) (by simp) ?_
      refine AllReadyH.cons rfl (fun K hK => ?_) AllReadyH.nil
      go_simp
      refine (coverBoth_any (k : Int) (k : Int) _ (isM_nat hk6) (isM_nat hk6)).mono ?_
      rintro e w2 ⟨rfl, b2⟩
      have b2A := hH.2.2.2.2.2.2.trans (b2.mono (by simp))
      go_wp2_with fail
      refine hK.out _ _ ?_ (fun hH => ?_)
      · exact HS.out _ b2A
      clear hK K
      refine hTake (i := 7) (v := ?_) rfl (by kernel_rfl) (by kernel_rfl) (by kernel_rfl) (by rfl) ?_ hH ?_
      rotate_left
      · intro W hW; (try dsimp only at hW); go_simp <;> with_reducible rfl
      simp only [Act.put, List.setIfInBounds_toArray, List.set_cons_zero, List.set_cons_succ]
      refine hTake (i := 8) (v := ?_) rfl (by kernel_rfl) (by kernel_rfl) (by kernel_rfl) (by rfl) ?_ hH ?_
      rotate_left
      · intro W hW; (try dsimp only at hW); go_simp <;> with_reducible rfl
      simp only [Act.put, List.setIfInBounds_toArray, List.set_cons_zero, List.set_cons_succ]
      refine wpAnyH_done (by kernel_rfl) ?_ _
      refine NoPanic.normal ?_
      clear hH HS
      have zw := lt_of_cell y0
      replace y0 := keep_cell b2A y0
      replace y1 := keep_cell b2A y1
      replace x0 := keep_cell b2A x0
      replace x1 := keep_cell b2A x1
      replace x2 := keep_cell b2A x2
      replace x3 := keep_cell b2A x3
      replace x4 := keep_cell b2A x4
      replace x5 := keep_cell b2A x5
      replace g0 := ((bcell b2A).2 w.heap.size 0 zw).trans g0
      replace g1 := ((bcell b2A).2 w.heap.size 1 zw).trans g1
      have hB2 := hB.trans (b2A.mono hB.size)
      clear b2 b2A
      cases t
      · obtain rfl : k = j := by have := ht.out; simp at this; omega
        go_wp2_with fail
        exact bodyPost_ret (v := .agg #[.int .i64 0, .int .i64 (k : Int)]) (by simp [results, Try.results81, go_sem, y0, y1]) rfl ⟨rfl, (hB2.setCell (p := ⟨w.heap.size, 0, none⟩) (Nat.le_refl _) _).setCell (p := ⟨w.heap.size, 1, none⟩) (Nat.le_refl _) _⟩
      · have hkj : k ≠ j := by have := ht.out; simp at this; omega
        clear ht neq
        go_wp2_with fail
        go_roundw
        case rel => exact ⟨k + 1, by omega, by go_num, x0, x1, x2, x3, x4, x5, y0, y1, g0, g1, hB2⟩
        case measure => simp [intOf]; omega
    · have hki : ¬ (k : Int) < 5 := by omega
      go_upto_region 5 with fail
      have HS : Hid (∀ W', Below wr.heap.size wr W' → W'.cell? ⟨g, 0, none⟩ = some (.bool v0) ∧ W'.cell? ⟨g, 1, none⟩ = some (.bool v1) ∧ W'.cell? ⟨g, 2, none⟩ = some (.bool v2) ∧ W'.cell? ⟨g, 3, none⟩ = some (.bool v3) ∧ W'.cell? ⟨g, 4, none⟩ = some (.bool v4) ∧ W'.cell? ⟨g, 5, none⟩ = some (.bool v5) ∧ Below wr.heap.size wr W') := fun W' hb' => ⟨keep_cell hb' x0, keep_cell hb' x1, keep_cell hb' x2, keep_cell hb' x3, keep_cell hb' x4, keep_cell hb' x5, hb'⟩
      refine wp_region_noPanic ?_
      refine wp_region_held_drew (S := fun W' => W'.cell? ⟨g, 0, none⟩ = some (.bool v0) ∧ W'.cell? ⟨g, 1, none⟩ = some (.bool v1) ∧ W'.cell? ⟨g, 2, none⟩ = some (.bool v2) ∧ W'.cell? ⟨g, 3, none⟩ = some (.bool v3) ∧ W'.cell? ⟨g, 4, none⟩ = some (.bool v4) ∧ W'.cell? ⟨g, 5, none⟩ = some (.bool v5) ∧ Below wr.heap.size wr W') (by kernel_rfl) (HS.out _ (Below.refl _ _).drew) (fun hH => ?_)
      refine hTake (i := 0) (v := ?_) rfl (by kernel_rfl) (by kernel_rfl) (by kernel_rfl) (by rfl) ?_ hH ?_
      rotate_left
      · intro W hW; (try dsimp only at hW); go_simp <;> with_reducible rfl
      simp only [Act.put, List.setIfInBounds_toArray, List.set_cons_zero, List.set_cons_succ]
      refine hTake (i := 1) (v := ?_) rfl (by kernel_rfl) (by kernel_rfl) (by kernel_rfl) (by rfl) ?_ hH ?_
      rotate_left
      · intro W hW; (try dsimp only at hW); go_simp <;> with_reducible rfl
      simp only [Act.put, List.setIfInBounds_toArray, List.set_cons_zero, List.set_cons_succ]
      refine hTake (i := 2) (v := ?_) rfl (by kernel_rfl) (by kernel_rfl) (by kernel_rfl) (by rfl) ?_ hH ?_
      rotate_left
      · intro W hW; (try dsimp only at hW); go_simp <;> with_reducible rfl
      simp only [Act.put, List.setIfInBounds_toArray, List.set_cons_zero, List.set_cons_succ]
      refine hSkip (i := 3) rfl (by kernel_rfl) (by kernel_rfl) (by kernel_rfl) (by rfl) hH ?_
      simp only [Act.put, List.setIfInBounds_toArray, List.set_cons_zero, List.set_cons_succ]
      refine hSkip (i := 4) rfl (by kernel_rfl) (by kernel_rfl) (by kernel_rfl) (by rfl) hH ?_
      simp only [Act.put, List.setIfInBounds_toArray, List.set_cons_zero, List.set_cons_succ]
      refine hSkip (i := 5) rfl (by kernel_rfl) (by kernel_rfl) (by kernel_rfl) (by rfl) hH ?_
      simp only [Act.put, List.setIfInBounds_toArray, List.set_cons_zero, List.set_cons_succ]
      refine hSkip (i := 6) rfl (by kernel_rfl) (by kernel_rfl) (by kernel_rfl) (by rfl) hH ?_
      simp only [Act.put, List.setIfInBounds_toArray, List.set_cons_zero, List.set_cons_succ]
      refine hSkip (i := 7) rfl (by kernel_rfl) (by kernel_rfl) (by kernel_rfl) (by rfl) hH ?_
      simp only [Act.put, List.setIfInBounds_toArray, List.set_cons_zero, List.set_cons_succ]
      refine hTake (i := 8) (v := ?_) rfl (by kernel_rfl) (by kernel_rfl) (by kernel_rfl) (by rfl) ?_ hH ?_
      rotate_left
      · intro W hW; (try dsimp only at hW); go_simp <;> with_reducible rfl
      simp only [Act.put, List.setIfInBounds_toArray, List.set_cons_zero, List.set_cons_succ]
      refine wpAnyH_done (by kernel_rfl) ?_ _
      refine NoPanic.normal ?_
      obtain rfl : k = j := by omega
      have b2A : Below wr.heap.size wr wr.drew := (Below.refl _ _).drew
      generalize wr.drew = w2 at *
      clear hH HS
      have zw := lt_of_cell y0
      replace y0 := keep_cell b2A y0
      replace y1 := keep_cell b2A y1
      replace x0 := keep_cell b2A x0
      replace x1 := keep_cell b2A x1
      replace x2 := keep_cell b2A x2
      replace x3 := keep_cell b2A x3
      replace x4 := keep_cell b2A x4
      replace x5 := keep_cell b2A x5
      replace g0 := ((bcell b2A).2 w.heap.size 0 zw).trans g0
      replace g1 := ((bcell b2A).2 w.heap.size 1 zw).trans g1
      have hB2 := hB.trans (b2A.mono hB.size)
      go_wp2_with fail
      exact bodyPost_ret (v := .agg #[.int .i64 0, .int .i64 (k : Int)]) (by simp [results, Try.results81, go_sem, y0, y1]) rfl ⟨rfl, (hB2.setCell (p := ⟨w.heap.size, 0, none⟩) (Nat.le_refl _) _).setCell (p := ⟨w.heap.size, 1, none⟩) (Nat.le_refl _) _⟩

theorem implJoin_any (a b : Int) (w : World) :
    Calls Try.prog 81 #[.int .i64 a, .int .i64 b] w fun e w' => e = .returned (joinR a b) ∧ Below w.heap.size w w' := by
  unfold joinR
  cases h : (Ch.isM a && Ch.isM b)
  · exact implJoin_no a b w h
  · simp only [Bool.and_eq_true] at h
    exact implJoin_ok a b w h.1 h.2
end Go.Proofs.Yteblnejpohjjmaa

/- ask: a lock asked for, of the program. -/
namespace Go.Proofs.Yteblnejpohjjmaa
open Go.RowKit

theorem Ch.ask_cov {l : Ch.Lock} {t m : Int} (h : Ch.covers (Ch.modeH l.hs t) m = true) : Ch.askOne l t m = (true, 0, l) := by unfold Ch.askOne; rw [if_pos h]
theorem Ch.ask_end {l : Ch.Lock} {t m : Int} (h : Ch.covers (Ch.modeH l.hs t) m = false) (h2 : (Ch.modeH l.hs t == 0 && (!Ch.fitsH l.hs t (Ch.join (Ch.modeH l.hs t) m) || decide (0 < l.qs.length))) = true) : Ch.askOne l t m = Ch.enterL l l.qs.length ⟨t, Ch.join (Ch.modeH l.hs t) m⟩ := by unfold Ch.askOne; rw [if_neg (by simp [h]), if_pos h2]
theorem Ch.ask_conv {l : Ch.Lock} {t m : Int} (h : Ch.covers (Ch.modeH l.hs t) m = false) (h2 : (Ch.modeH l.hs t == 0 && (!Ch.fitsH l.hs t (Ch.join (Ch.modeH l.hs t) m) || decide (0 < l.qs.length))) = false) (h3 : Ch.fitsH l.hs t (Ch.join (Ch.modeH l.hs t) m) = false) : Ch.askOne l t m = Ch.enterL l (Ch.convH l.hs l.qs) ⟨t, Ch.join (Ch.modeH l.hs t) m⟩ := by unfold Ch.askOne; rw [if_neg (by simp [h]), if_neg (by simp [h2]), if_pos (by simp [h3])]
theorem Ch.ask_full {l : Ch.Lock} {t m : Int} (h : Ch.covers (Ch.modeH l.hs t) m = false) (h2 : (Ch.modeH l.hs t == 0 && (!Ch.fitsH l.hs t (Ch.join (Ch.modeH l.hs t) m) || decide (0 < l.qs.length))) = false) (h3 : Ch.fitsH l.hs t (Ch.join (Ch.modeH l.hs t) m) = true) (h4 : (Ch.hasH l.hs t || decide (l.hs.length < 20)) = false) : Ch.askOne l t m = (false, 2, l) := by unfold Ch.askOne; rw [if_neg (by simp [h]), if_neg (by simp [h2]), if_neg (by simp [h3]), if_pos (by simp [h4])]
theorem Ch.ask_put {l : Ch.Lock} {t m : Int} (h : Ch.covers (Ch.modeH l.hs t) m = false) (h2 : (Ch.modeH l.hs t == 0 && (!Ch.fitsH l.hs t (Ch.join (Ch.modeH l.hs t) m) || decide (0 < l.qs.length))) = false) (h3 : Ch.fitsH l.hs t (Ch.join (Ch.modeH l.hs t) m) = true) (h4 : (Ch.hasH l.hs t || decide (l.hs.length < 20)) = true) : Ch.askOne l t m = (true, 0, ⟨l.r, Ch.putH l.hs ⟨t, Ch.join (Ch.modeH l.hs t) m⟩, l.qs⟩) := by unfold Ch.askOne; rw [if_neg (by simp [h]), if_neg (by simp [h2]), if_neg (by simp [h3]), if_neg (by simp [h4])]
theorem field_intK (j : Int) (W : World) : (Instr.field 32 (.agg #[.int .i64 0, .int .i64 j]) 1).run Try.prog W = .ok (.int .i64 j) W := by kernel_rfl
theorem Ch.enter_false (l : Ch.Lock) (k : Nat) (h : Ch.Hold) : (Ch.enterL l k h).1 = false := by unfold Ch.enterL; split <;> rfl
theorem implCov_at {a b : Int} {v : Bool} (h : Ch.covers a b = v) (w : World) : Calls Try.prog 18 #[.int .i64 a, .int .i64 b] w fun e w' => e = .returned (.bool v) ∧ Below w.heap.size w w' := by
  refine (implCov_any a b w).mono ?_
  rintro e w' ⟨rfl, hb⟩
  exact ⟨by rw [← h]; rfl, hb⟩
theorem implJoin_at {a b : Int} (ha : Ch.isM a = true) (hb : Ch.isM b = true) (w : World) : Calls Try.prog 81 #[.int .i64 a, .int .i64 b] w fun e w' => e = .returned (.agg #[.int .i64 0, .int .i64 (Ch.join a b)]) ∧ Below w.heap.size w w' := implJoin_ok a b w ha hb

set_option linter.unusedSimpArgs false in
set_option maxRecDepth 20000 in
set_option maxHeartbeats 1000000 in
theorem ask_any (t m : Int) (B o n cap k : Nat) (ls : List Ch.Lock) (vs : List (Value × Value)) (w : World) (own : OwnK 77 w B (.slice (some ⟨o, 0, none⟩) n cap) n ls vs) (hk : k < n) (hB : B ≤ w.heap.size) (hszh : (Ch.lkAt ls k).hs.length ≤ 1048576) (hszq : (Ch.lkAt ls k).qs.length ≤ 1048576) (hg : Ch.namesH (Ch.lkAt ls k).hs = true) (hm : Ch.isM m = true) :
    Calls Try.prog 49 #[.pointer (some ⟨o, k * 3, none⟩), .int .i64 t, .int .i64 m] w fun e w' => e = .returned (.tuple #[.bool (Ch.askOne (Ch.lkAt ls k) t m).1, .int .i64 (Ch.askOne (Ch.lkAt ls k) t m).2.1]) ∧ ∃ vs', OwnK 77 w' B (.slice (some ⟨o, 0, none⟩) n cap) n (ls.set k (Ch.askOne (Ch.lkAt ls k) t m).2.2) vs' ∧ Moved (.slice (some ⟨o, 0, none⟩) n cap) vs vs' w w' := by
  have HSM := hid (Ch.lk_same ls k)
  have HHM := hid (Ch.modeH_names hg t).1
  have HM := hid hm
  have HE0 := hid (fun j j' (W : World) (vs1 : List (Value × Value)) own1 hB1 (hj : j' ≤ (Ch.lkAt ls k).qs.length) => enter_any t j j' B o n cap k ls vs1 W own1 hk hB1 hszh hszq hj)
  have HH0 := hid (fun j (W : World) (vs1 : List (Value × Value)) own1 hB1 => hold_any t j B o n cap k ls vs1 W own1 hk hB1 hszh hszq)
  obtain ⟨ah, ch, aq, cq, hp, c0, c1, c2, f1, f2, o1, o2, ne, nr, ob1, ob2⟩ := own.one hk
  obtain ⟨l, HLK⟩ : ∃ l, Hid (Ch.lkAt ls k = l) := ⟨_, rfl⟩
  rw [HLK.out] at c0 c1 c2 o1 o2 hszh hszq HHM HSM HE0 HH0 ⊢
  obtain ⟨r, lhs, lqs⟩ := l
  simp only at c0 c1 c2 o1 o2 hszh hszq HHM
  have h3 := owns_cells o1
  have h4 := owns_cells o2
  clear hp f1 f2 o1 o2 ne nr hg HLK
  have kA : ∀ q, Below w.heap.size w (w.alloc q) := fun q => (Below.refl _ _).alloc (Nat.le_refl _) q
  have HIM := hid (fun W hW => modeOf_any ah lhs.length ch t lhs W hW hszh)
  have HOwn := hid own
  have HB := hid hB
  clear own hB
  cases hcv : Ch.covers (Ch.modeH lhs t) m
  · have HIC := hid (fun W => implCov_at hcv W)
    have HIJ := hid (fun W => implJoin_at HHM.out HM.out W)
    have HIF := hid (fun W hW => fitOthers_any ah lhs.length ch t (Ch.join (Ch.modeH lhs t) m) lhs W hW hszh)
    have HA1 := hid (Ch.ask_end (l := ⟨r, lhs, lqs⟩) (t := t) (m := m) hcv)
    have HA2 := hid (Ch.ask_conv (l := ⟨r, lhs, lqs⟩) (t := t) (m := m) hcv)
    have HA3 := hid (Ch.ask_full (l := ⟨r, lhs, lqs⟩) (t := t) (m := m) hcv)
    have HA4 := hid (Ch.ask_put (l := ⟨r, lhs, lqs⟩) (t := t) (m := m) hcv)
    have HIR := hid (fun W hW => hasRoom_any r ah lhs.length ch aq lqs.length cq t lhs W hW hszh)
    have HCC := hid (fun W hW hW' => convCount_any r ah lhs.length ch aq lqs.length cq lhs lqs W hW hW' hszh hszq)
    have HCL := hid (Ch.conv_le lhs lqs)
    simp only at HA1 HA2 HA3 HA4
    generalize Ch.modeH lhs t = held at *
    generalize Ch.join held m = jm at *
    generalize Ch.fitsH lhs t jm = ft at *
    generalize (Ch.hasH lhs t || decide (lhs.length < 20)) = rm at *
    generalize Ch.convH lhs lqs = cv at *
    clear hcv
    go_enter Try.func49, Try.ntmps49
    go_wp2_with fail
    refine (HIM.out _ h3).mono ?_
    rintro e w1 ⟨rfl, b1⟩
    go_wp2_with fail
    refine (HIC.out _).mono ?_
    rintro e w2 ⟨rfl, b2⟩
    have b2 := b1.trans (b2.mono b1.size)
    clear b1
    go_wp2_with fail
    refine (HIJ.out _).mono ?_
    rintro e w3 ⟨rfl, b3⟩
    have b3 := b2.trans (b3.mono b2.size)
    clear b2
    have hfd := fun W => field_intK jm W
    go_wp2_with fail
    clear hfd
    have kU : Below w.heap.size w (w3.alloc (.cells #[.int .i64 t, .int .i64 jm] 110)) := b3.alloc b3.size _
    have y0 : (w3.alloc (.cells #[.int .i64 t, .int .i64 jm] 110)).cell? ⟨w3.heap.size, 0, none⟩ = some (.int .i64 t) := by simp [go_sem]
    have y1 : (w3.alloc (.cells #[.int .i64 t, .int .i64 jm] 110)).cell? ⟨w3.heap.size, 1, none⟩ = some (.int .i64 jm) := by simp [go_sem]
    have d1 := keep_cell kU c1
    have HBN : Hid (w3.heap.size ∉ (Value.slice (some ⟨o, 0, none⟩) n cap).ownBlock.toList ++ vs.flatMap blks) := fun hmem => by
      have hs3 := b3.size
      rw [List.mem_append] at hmem
      rcases hmem with h2 | h2
      · have := (owns_lt HOwn.out.row _ (by simpa using h2)).2; omega
      · obtain ⟨i, q, hq, hgq⟩ := flat_mem h2
        have := (HOwn.out.bd hq hgq).2; omega
    generalize w3.alloc (.cells #[.int .i64 t, .int .i64 jm] 110) = U at *
    generalize w3.heap.size = bx at *
    clear b3
    refine wp_region_noPanic ?_
    refine wp_region_held_drew (S := fun W' => W'.cell? ⟨o, k * 3 + 1, none⟩ = some (.slice ah lhs.length ch) ∧ W'.cell? ⟨bx, 0, none⟩ = some (.int .i64 t) ∧ W'.cell? ⟨bx, 1, none⟩ = some (.int .i64 jm) ∧ Below w.heap.size w W') (by kernel_rfl) (⟨d1, y0, y1, kU.drew⟩) (fun hH => ?_)
    refine hTake (i := 0) (v := ?_) rfl (by kernel_rfl) (by kernel_rfl) (by kernel_rfl) (by rfl) ?_ hH ?_
    rotate_left
    · intro W hW; (try dsimp only at hW); go_simp <;> with_reducible rfl
    simp only [Act.put, List.setIfInBounds_toArray, List.set_cons_zero, List.set_cons_succ]
    refine hTake (i := 1) (v := ?_) rfl (by kernel_rfl) (by kernel_rfl) (by kernel_rfl) (by rfl) ?_ hH ?_
    rotate_left
    · intro W hW; (try dsimp only at hW); go_simp <;> with_reducible rfl
    simp only [Act.put, List.setIfInBounds_toArray, List.set_cons_zero, List.set_cons_succ]
    refine hTake (i := 2) (v := ?_) rfl (by kernel_rfl) (by kernel_rfl) (by kernel_rfl) (by rfl) ?_ hH ?_
    rotate_left
    · intro W hW; (try dsimp only at hW); go_simp <;> with_reducible rfl
    simp only [Act.put, List.setIfInBounds_toArray, List.set_cons_zero, List.set_cons_succ]
    refine hTake (i := 3) (v := ?_) rfl (by kernel_rfl) (by kernel_rfl) (by kernel_rfl) (by rfl) ?_ hH ?_
    rotate_left
    · intro W hW; (try dsimp only at hW); go_simp <;> with_reducible rfl
    simp only [Act.put, List.setIfInBounds_toArray, List.set_cons_zero, List.set_cons_succ]
    refine hTake (i := 4) (v := ?_) rfl (by kernel_rfl) (by kernel_rfl) (by kernel_rfl) (by rfl) ?_ hH ?_
    rotate_left
    · intro W hW; (try dsimp only at hW); go_simp <;> with_reducible rfl
    simp only [Act.put, List.setIfInBounds_toArray, List.set_cons_zero, List.set_cons_succ]
    refine wpAnyH_ready (rs := [5]) (by kernel_rfl) (by simp) ?_
    refine AllReadyH.cons rfl (fun K hK => ?_) AllReadyH.nil
    go_simp
    refine (HIF.out _ (h3.below hH.2.2.2)).mono ?_
    rintro e w4 ⟨rfl, b4⟩
    go_wp2_with fail
    refine hK.out _ _ ?_ (fun hH => ?_)
    · exact ⟨keep_cell b4 hH.1, keep_cell b4 hH.2.1, keep_cell b4 hH.2.2.1, hH.2.2.2.trans (b4.mono hH.2.2.2.size)⟩
    clear hK K
    refine hTake (i := 6) (v := ?_) rfl (by kernel_rfl) (by kernel_rfl) (by kernel_rfl) (by rfl) ?_ hH ?_
    rotate_left
    · intro W hW; (try dsimp only at hW); go_simp <;> with_reducible rfl
    simp only [Act.put, List.setIfInBounds_toArray, List.set_cons_zero, List.set_cons_succ]
    refine wpAnyH_done (by kernel_rfl) ?_ _
    refine NoPanic.normal ?_
    have kw4 := hH.2.2.2
    have z0 := hH.2.1
    have z1 := hH.2.2.1
    clear hH kU y0 y1 d1
    have g0 := keep_cell kw4 c0
    have g1 := keep_cell kw4 c1
    have g2 := keep_cell kw4 c2
    by_cases h0 : held = 0
    · subst h0
      cases ft
      · have HAA := hid (HA1.out (by simp))
        go_wp2_with fail
        have kV : Below w.heap.size w w4.drew := kw4.drew
        have dd0 : w4.drew.cell? ⟨o, k * 3, none⟩ = some (.int .i64 r) := (keep_cell kw4 c0 :)
        have dd1 : w4.drew.cell? ⟨o, k * 3 + 1, none⟩ = some (.slice ah lhs.length ch) := (keep_cell kw4 c1 :)
        have dd2 : w4.drew.cell? ⟨o, k * 3 + 2, none⟩ = some (.slice aq lqs.length cq) := (keep_cell kw4 c2 :)
        refine wp_region_noPanic ?_
        refine wp_region_held_drew (S := fun W' => W'.cell? ⟨bx, 0, none⟩ = some (.int .i64 t) ∧ W'.cell? ⟨bx, 1, none⟩ = some (.int .i64 jm)) (by kernel_rfl) (⟨z0, z1⟩) (fun hH => ?_)
        generalize w4.drew = V at *
        refine hTake (i := 0) (v := ?_) rfl (by kernel_rfl) (by kernel_rfl) (by kernel_rfl) (by rfl) ?_ hH ?_
        rotate_left
        · intro W hW; (try dsimp only at hW); go_simp <;> with_reducible rfl
        simp only [Act.put, List.setIfInBounds_toArray, List.set_cons_zero, List.set_cons_succ]
        refine hTake (i := 1) (v := ?_) rfl (by kernel_rfl) (by kernel_rfl) (by kernel_rfl) (by rfl) ?_ hH ?_
        rotate_left
        · intro W hW; (try dsimp only at hW); go_simp <;> with_reducible rfl
        simp only [Act.put, List.setIfInBounds_toArray, List.set_cons_zero, List.set_cons_succ]
        refine hTake (i := 2) (v := ?_) rfl (by kernel_rfl) (by kernel_rfl) (by kernel_rfl) (by rfl) ?_ hH ?_
        rotate_left
        · intro W hW; (try dsimp only at hW); go_simp <;> with_reducible rfl
        simp only [Act.put, List.setIfInBounds_toArray, List.set_cons_zero, List.set_cons_succ]
        refine hTake (i := 3) (v := ?_) rfl (by kernel_rfl) (by kernel_rfl) (by kernel_rfl) (by rfl) ?_ hH ?_
        rotate_left
        · intro W hW; (try dsimp only at hW); go_simp <;> with_reducible rfl
        simp only [Act.put, List.setIfInBounds_toArray, List.set_cons_zero, List.set_cons_succ]
        refine hTake (i := 4) (v := ?_) rfl (by kernel_rfl) (by kernel_rfl) (by kernel_rfl) (by rfl) ?_ hH ?_
        rotate_left
        · intro W hW; (try dsimp only at hW); go_simp <;> with_reducible rfl
        simp only [Act.put, List.setIfInBounds_toArray, List.set_cons_zero, List.set_cons_succ]
        refine hTake (i := 5) (v := ?_) rfl (by kernel_rfl) (by kernel_rfl) (by kernel_rfl) (by rfl) ?_ hH ?_
        rotate_left
        · intro W hW; (try dsimp only at hW); go_simp <;> with_reducible rfl
        simp only [Act.put, List.setIfInBounds_toArray, List.set_cons_zero, List.set_cons_succ]
        refine hTake (i := 6) (v := ?_) rfl (by kernel_rfl) (by kernel_rfl) (by kernel_rfl) (by rfl) ?_ hH ?_
        rotate_left
        · intro W hW; (try dsimp only at hW); go_simp <;> with_reducible rfl
        simp only [Act.put, List.setIfInBounds_toArray, List.set_cons_zero, List.set_cons_succ]
        refine hTake (i := 9) (v := ?_) rfl (by kernel_rfl) (by kernel_rfl) (by kernel_rfl) (by rfl) ?_ hH ?_
        rotate_left
        · intro W hW; (try dsimp only at hW); go_simp <;> with_reducible rfl
        simp only [Act.put, List.setIfInBounds_toArray, List.set_cons_zero, List.set_cons_succ]
        refine wpAnyH_ready (rs := [7]) (by kernel_rfl) (by simp) ?_
        refine AllReadyH.cons rfl (fun K hK => ?_) AllReadyH.nil
        have e0 := dd0
        have e1 := dd1
        have e2 := dd2
        go_simp
        refine hK.out _ _ ?_ (fun hH => ?_)
        · exact hH
        clear hK K
        refine hTake (i := 8) (v := ?_) rfl (by kernel_rfl) (by kernel_rfl) (by kernel_rfl) (by rfl) ?_ hH ?_
        rotate_left
        · intro W hW; (try dsimp only at hW); go_simp <;> with_reducible rfl
        simp only [Act.put, List.setIfInBounds_toArray, List.set_cons_zero, List.set_cons_succ]
        refine wpAnyH_ready (rs := [10]) (by kernel_rfl) (by simp) ?_
        refine AllReadyH.cons rfl (fun K hK => ?_) AllReadyH.nil
        go_simp
        refine (HE0.out jm lqs.length _ vs (HOwn.out.below kV) (Nat.le_trans HB.out kV.size) (Nat.le_refl _)).mono ?_
        rintro e w5 ⟨rfl, vs5, own5, mv5⟩
        have hbn : bx ∉ (Value.slice (some ⟨o, 0, none⟩) n cap).ownBlock.toList ++ vs.flatMap blks := HBN.out
        have MV := hid ((Moved.ofBelow kV).trans mv5)
        go_wp2_with fail
        refine hK.out _ _ ?_ (fun hH => ?_)
        · exact ⟨mv5.cell hH.1 hbn, mv5.cell hH.2 hbn⟩
        clear hK K
        refine hTake (i := 11) (v := ?_) rfl (by kernel_rfl) (by kernel_rfl) (by kernel_rfl) (by rfl) ?_ hH ?_
        rotate_left
        · intro W hW; (try dsimp only at hW); go_simp <;> with_reducible rfl
        simp only [Act.put, List.setIfInBounds_toArray, List.set_cons_zero, List.set_cons_succ]
        refine hTake (i := 12) (v := ?_) rfl (by kernel_rfl) (by kernel_rfl) (by kernel_rfl) (by rfl) ?_ hH ?_
        rotate_left
        · intro W hW; (try dsimp only at hW); go_simp <;> with_reducible rfl
        simp only [Act.put, List.setIfInBounds_toArray, List.set_cons_zero, List.set_cons_succ]
        refine wpAnyH_done (by kernel_rfl) ?_ _
        refine NoPanic.normal ?_
        have OW := hid own5
        clear own5
        go_wp2
        exact bodyPost_ret (v := .tuple #[.bool false, .int .i64 (Ch.enterL ⟨r, lhs, lqs⟩ lqs.length ⟨t, jm⟩).2.1]) (by simp [results, Try.results49, go_sem]) rfl ⟨by rw [HAA.out, Ch.enter_false], vs5, by rw [HAA.out]; exact OW.out, MV.out⟩
      · by_cases hq : 0 < lqs.length
        · have HAA := hid (HA1.out (by simp [hq]))
          go_wp2_with fail
          have kV : Below w.heap.size w w4.drew := kw4.drew
          have dd0 : w4.drew.cell? ⟨o, k * 3, none⟩ = some (.int .i64 r) := (keep_cell kw4 c0 :)
          have dd1 : w4.drew.cell? ⟨o, k * 3 + 1, none⟩ = some (.slice ah lhs.length ch) := (keep_cell kw4 c1 :)
          have dd2 : w4.drew.cell? ⟨o, k * 3 + 2, none⟩ = some (.slice aq lqs.length cq) := (keep_cell kw4 c2 :)
          refine wp_region_noPanic ?_
          refine wp_region_held_drew (S := fun W' => W'.cell? ⟨bx, 0, none⟩ = some (.int .i64 t) ∧ W'.cell? ⟨bx, 1, none⟩ = some (.int .i64 jm)) (by kernel_rfl) (⟨z0, z1⟩) (fun hH => ?_)
          generalize w4.drew = V at *
          refine hTake (i := 0) (v := ?_) rfl (by kernel_rfl) (by kernel_rfl) (by kernel_rfl) (by rfl) ?_ hH ?_
          rotate_left
          · intro W hW; (try dsimp only at hW); go_simp <;> with_reducible rfl
          simp only [Act.put, List.setIfInBounds_toArray, List.set_cons_zero, List.set_cons_succ]
          refine hTake (i := 1) (v := ?_) rfl (by kernel_rfl) (by kernel_rfl) (by kernel_rfl) (by rfl) ?_ hH ?_
          rotate_left
          · intro W hW; (try dsimp only at hW); go_simp <;> with_reducible rfl
          simp only [Act.put, List.setIfInBounds_toArray, List.set_cons_zero, List.set_cons_succ]
          refine hTake (i := 2) (v := ?_) rfl (by kernel_rfl) (by kernel_rfl) (by kernel_rfl) (by rfl) ?_ hH ?_
          rotate_left
          · intro W hW; (try dsimp only at hW); go_simp <;> with_reducible rfl
          simp only [Act.put, List.setIfInBounds_toArray, List.set_cons_zero, List.set_cons_succ]
          refine hTake (i := 3) (v := ?_) rfl (by kernel_rfl) (by kernel_rfl) (by kernel_rfl) (by rfl) ?_ hH ?_
          rotate_left
          · intro W hW; (try dsimp only at hW); go_simp <;> with_reducible rfl
          simp only [Act.put, List.setIfInBounds_toArray, List.set_cons_zero, List.set_cons_succ]
          refine hTake (i := 4) (v := ?_) rfl (by kernel_rfl) (by kernel_rfl) (by kernel_rfl) (by rfl) ?_ hH ?_
          rotate_left
          · intro W hW; (try dsimp only at hW); go_simp <;> with_reducible rfl
          simp only [Act.put, List.setIfInBounds_toArray, List.set_cons_zero, List.set_cons_succ]
          refine hTake (i := 5) (v := ?_) rfl (by kernel_rfl) (by kernel_rfl) (by kernel_rfl) (by rfl) ?_ hH ?_
          rotate_left
          · intro W hW; (try dsimp only at hW); go_simp <;> with_reducible rfl
          simp only [Act.put, List.setIfInBounds_toArray, List.set_cons_zero, List.set_cons_succ]
          refine hTake (i := 6) (v := ?_) rfl (by kernel_rfl) (by kernel_rfl) (by kernel_rfl) (by rfl) ?_ hH ?_
          rotate_left
          · intro W hW; (try dsimp only at hW); go_simp <;> with_reducible rfl
          simp only [Act.put, List.setIfInBounds_toArray, List.set_cons_zero, List.set_cons_succ]
          refine hTake (i := 9) (v := ?_) rfl (by kernel_rfl) (by kernel_rfl) (by kernel_rfl) (by rfl) ?_ hH ?_
          rotate_left
          · intro W hW; (try dsimp only at hW); go_simp <;> with_reducible rfl
          simp only [Act.put, List.setIfInBounds_toArray, List.set_cons_zero, List.set_cons_succ]
          refine wpAnyH_ready (rs := [7]) (by kernel_rfl) (by simp) ?_
          refine AllReadyH.cons rfl (fun K hK => ?_) AllReadyH.nil
          have e0 := dd0
          have e1 := dd1
          have e2 := dd2
          go_simp
          refine hK.out _ _ ?_ (fun hH => ?_)
          · exact hH
          clear hK K
          refine hTake (i := 8) (v := ?_) rfl (by kernel_rfl) (by kernel_rfl) (by kernel_rfl) (by rfl) ?_ hH ?_
          rotate_left
          · intro W hW; (try dsimp only at hW); go_simp <;> with_reducible rfl
          simp only [Act.put, List.setIfInBounds_toArray, List.set_cons_zero, List.set_cons_succ]
          refine wpAnyH_ready (rs := [10]) (by kernel_rfl) (by simp) ?_
          refine AllReadyH.cons rfl (fun K hK => ?_) AllReadyH.nil
          go_simp
          refine (HE0.out jm lqs.length _ vs (HOwn.out.below kV) (Nat.le_trans HB.out kV.size) (Nat.le_refl _)).mono ?_
          rintro e w5 ⟨rfl, vs5, own5, mv5⟩
          have hbn : bx ∉ (Value.slice (some ⟨o, 0, none⟩) n cap).ownBlock.toList ++ vs.flatMap blks := HBN.out
          have MV := hid ((Moved.ofBelow kV).trans mv5)
          go_wp2_with fail
          refine hK.out _ _ ?_ (fun hH => ?_)
          · exact ⟨mv5.cell hH.1 hbn, mv5.cell hH.2 hbn⟩
          clear hK K
          refine hTake (i := 11) (v := ?_) rfl (by kernel_rfl) (by kernel_rfl) (by kernel_rfl) (by rfl) ?_ hH ?_
          rotate_left
          · intro W hW; (try dsimp only at hW); go_simp <;> with_reducible rfl
          simp only [Act.put, List.setIfInBounds_toArray, List.set_cons_zero, List.set_cons_succ]
          refine hTake (i := 12) (v := ?_) rfl (by kernel_rfl) (by kernel_rfl) (by kernel_rfl) (by rfl) ?_ hH ?_
          rotate_left
          · intro W hW; (try dsimp only at hW); go_simp <;> with_reducible rfl
          simp only [Act.put, List.setIfInBounds_toArray, List.set_cons_zero, List.set_cons_succ]
          refine wpAnyH_done (by kernel_rfl) ?_ _
          refine NoPanic.normal ?_
          have OW := hid own5
          clear own5
          go_wp2
          exact bodyPost_ret (v := .tuple #[.bool false, .int .i64 (Ch.enterL ⟨r, lhs, lqs⟩ lqs.length ⟨t, jm⟩).2.1]) (by simp [results, Try.results49, go_sem]) rfl ⟨by rw [HAA.out, Ch.enter_false], vs5, by rw [HAA.out]; exact OW.out, MV.out⟩
        · skip
          cases rm
          · have HAA := hid (HA3.out (by rw [decide_eq_false hq]; rfl) rfl rfl)
            go_wp2_with fail
            refine (HIR.out _ (h3.below kw4)).mono ?_
            rintro e w6 ⟨rfl, b6⟩
            have k6 := hid (kw4.trans (b6.mono kw4.size))
            go_wp2
            exact bodyPost_ret (v := .tuple #[.bool false, .int .i64 2]) (by simp [results, Try.results49, go_sem]) rfl ⟨by rw [HAA.out], vs, by rw [HAA.out]; simp only; rw [HSM.out]; exact HOwn.out.below k6.out, Moved.ofBelow k6.out⟩
          · have HAA := hid (HA4.out (by rw [decide_eq_false hq]; rfl) rfl rfl)
            go_wp2_with fail
            refine (HIR.out _ (h3.below kw4)).mono ?_
            rintro e w6 ⟨rfl, b6⟩
            have k6 := kw4.trans (b6.mono kw4.size)
            have u0 := keep_cell b6 z0
            have u1 := keep_cell b6 z1
            go_wp2_with fail
            refine (HH0.out jm _ vs (HOwn.out.below k6) (Nat.le_trans HB.out k6.size)).mono ?_
            rintro e w7 ⟨rfl, vs7, own7, mv7⟩
            have MV := hid ((Moved.ofBelow k6).trans mv7)
            have OW := hid own7
            clear own7
            go_wp2
            exact bodyPost_ret (v := .tuple #[.bool true, .int .i64 0]) (by simp [results, Try.results49, go_sem]) rfl ⟨by rw [HAA.out], vs7, by rw [HAA.out]; exact OW.out, MV.out⟩
    · cases ft
      · have HAA := hid (HA2.out (by simp [h0]) rfl)
        go_wp2_with fail
        have kV : Below w.heap.size w w4.drew := kw4.drew
        have dd0 : w4.drew.cell? ⟨o, k * 3, none⟩ = some (.int .i64 r) := (keep_cell kw4 c0 :)
        have dd1 : w4.drew.cell? ⟨o, k * 3 + 1, none⟩ = some (.slice ah lhs.length ch) := (keep_cell kw4 c1 :)
        have dd2 : w4.drew.cell? ⟨o, k * 3 + 2, none⟩ = some (.slice aq lqs.length cq) := (keep_cell kw4 c2 :)
        refine wp_region_noPanic ?_
        refine wp_region_held_drew (S := fun W' => W'.cell? ⟨bx, 0, none⟩ = some (.int .i64 t) ∧ W'.cell? ⟨bx, 1, none⟩ = some (.int .i64 jm)) (by kernel_rfl) (⟨z0, z1⟩) (fun hH => ?_)
        generalize w4.drew = V at *
        refine hTake (i := 0) (v := ?_) rfl (by kernel_rfl) (by kernel_rfl) (by kernel_rfl) (by rfl) ?_ hH ?_
        rotate_left
        · intro W hW; (try dsimp only at hW); go_simp <;> with_reducible rfl
        simp only [Act.put, List.setIfInBounds_toArray, List.set_cons_zero, List.set_cons_succ]
        refine hTake (i := 1) (v := ?_) rfl (by kernel_rfl) (by kernel_rfl) (by kernel_rfl) (by rfl) ?_ hH ?_
        rotate_left
        · intro W hW; (try dsimp only at hW); go_simp <;> with_reducible rfl
        simp only [Act.put, List.setIfInBounds_toArray, List.set_cons_zero, List.set_cons_succ]
        refine hTake (i := 2) (v := ?_) rfl (by kernel_rfl) (by kernel_rfl) (by kernel_rfl) (by rfl) ?_ hH ?_
        rotate_left
        · intro W hW; (try dsimp only at hW); go_simp <;> with_reducible rfl
        simp only [Act.put, List.setIfInBounds_toArray, List.set_cons_zero, List.set_cons_succ]
        refine hTake (i := 3) (v := ?_) rfl (by kernel_rfl) (by kernel_rfl) (by kernel_rfl) (by rfl) ?_ hH ?_
        rotate_left
        · intro W hW; (try dsimp only at hW); go_simp <;> with_reducible rfl
        simp only [Act.put, List.setIfInBounds_toArray, List.set_cons_zero, List.set_cons_succ]
        refine hTake (i := 4) (v := ?_) rfl (by kernel_rfl) (by kernel_rfl) (by kernel_rfl) (by rfl) ?_ hH ?_
        rotate_left
        · intro W hW; (try dsimp only at hW); go_simp <;> with_reducible rfl
        simp only [Act.put, List.setIfInBounds_toArray, List.set_cons_zero, List.set_cons_succ]
        refine hTake (i := 7) (v := ?_) rfl (by kernel_rfl) (by kernel_rfl) (by kernel_rfl) (by rfl) ?_ hH ?_
        rotate_left
        · intro W hW; (try dsimp only at hW); go_simp <;> with_reducible rfl
        simp only [Act.put, List.setIfInBounds_toArray, List.set_cons_zero, List.set_cons_succ]
        refine wpAnyH_ready (rs := [5]) (by kernel_rfl) (by simp) ?_
        refine AllReadyH.cons rfl (fun K hK => ?_) AllReadyH.nil
        have e0 := dd0
        have e1 := dd1
        have e2 := dd2
        go_simp
        refine hK.out _ _ ?_ (fun hH => ?_)
        · exact hH
        clear hK K
        refine wpAnyH_ready (rs := [6]) (by kernel_rfl) (by simp) ?_
        refine AllReadyH.cons rfl (fun K hK => ?_) AllReadyH.nil
        go_simp
        refine (HCC.out _ (h3.below kV) (h4.below kV)).mono ?_
        rintro e w6 ⟨rfl, b6⟩
        have k6 := kV.trans (b6.mono kV.size)
        go_wp2_with fail
        refine hK.out _ _ ?_ (fun hH => ?_)
        · exact ⟨keep_cell b6 hH.1, keep_cell b6 hH.2⟩
        clear hK K
        refine wpAnyH_ready (rs := [8]) (by kernel_rfl) (by simp) ?_
        refine AllReadyH.cons rfl (fun K hK => ?_) AllReadyH.nil
        go_simp
        refine (HE0.out jm cv _ vs (HOwn.out.below k6) (Nat.le_trans HB.out k6.size) HCL.out).mono ?_
        rintro e w5 ⟨rfl, vs5, own5, mv5⟩
        have hbn : bx ∉ (Value.slice (some ⟨o, 0, none⟩) n cap).ownBlock.toList ++ vs.flatMap blks := HBN.out
        have MV := hid ((Moved.ofBelow k6).trans mv5)
        go_wp2_with fail
        refine hK.out _ _ ?_ (fun hH => ?_)
        · exact ⟨mv5.cell hH.1 hbn, mv5.cell hH.2 hbn⟩
        clear hK K
        refine hTake (i := 9) (v := ?_) rfl (by kernel_rfl) (by kernel_rfl) (by kernel_rfl) (by rfl) ?_ hH ?_
        rotate_left
        · intro W hW; (try dsimp only at hW); go_simp <;> with_reducible rfl
        simp only [Act.put, List.setIfInBounds_toArray, List.set_cons_zero, List.set_cons_succ]
        refine hTake (i := 10) (v := ?_) rfl (by kernel_rfl) (by kernel_rfl) (by kernel_rfl) (by rfl) ?_ hH ?_
        rotate_left
        · intro W hW; (try dsimp only at hW); go_simp <;> with_reducible rfl
        simp only [Act.put, List.setIfInBounds_toArray, List.set_cons_zero, List.set_cons_succ]
        refine wpAnyH_done (by kernel_rfl) ?_ _
        refine NoPanic.normal ?_
        have OW := hid own5
        clear own5
        go_wp2
        exact bodyPost_ret (v := .tuple #[.bool false, .int .i64 (Ch.enterL ⟨r, lhs, lqs⟩ cv ⟨t, jm⟩).2.1]) (by simp [results, Try.results49, go_sem]) rfl ⟨by rw [HAA.out, Ch.enter_false], vs5, by rw [HAA.out]; exact OW.out, MV.out⟩
      · skip
        cases rm
        · have HAA := hid (HA3.out (by simp [h0]) rfl rfl)
          go_wp2_with fail
          refine (HIR.out _ (h3.below kw4)).mono ?_
          rintro e w6 ⟨rfl, b6⟩
          have k6 := hid (kw4.trans (b6.mono kw4.size))
          go_wp2
          exact bodyPost_ret (v := .tuple #[.bool false, .int .i64 2]) (by simp [results, Try.results49, go_sem]) rfl ⟨by rw [HAA.out], vs, by rw [HAA.out]; simp only; rw [HSM.out]; exact HOwn.out.below k6.out, Moved.ofBelow k6.out⟩
        · have HAA := hid (HA4.out (by simp [h0]) rfl rfl)
          go_wp2_with fail
          refine (HIR.out _ (h3.below kw4)).mono ?_
          rintro e w6 ⟨rfl, b6⟩
          have k6 := kw4.trans (b6.mono kw4.size)
          have u0 := keep_cell b6 z0
          have u1 := keep_cell b6 z1
          go_wp2_with fail
          refine (HH0.out jm _ vs (HOwn.out.below k6) (Nat.le_trans HB.out k6.size)).mono ?_
          rintro e w7 ⟨rfl, vs7, own7, mv7⟩
          have MV := hid ((Moved.ofBelow k6).trans mv7)
          have OW := hid own7
          clear own7
          go_wp2
          exact bodyPost_ret (v := .tuple #[.bool true, .int .i64 0]) (by simp [results, Try.results49, go_sem]) rfl ⟨by rw [HAA.out], vs7, by rw [HAA.out]; exact OW.out, MV.out⟩
  · have HIC := hid (fun W => implCov_at hcv W)
    rw [Ch.ask_cov (l := ⟨r, lhs, lqs⟩) hcv]
    simp only
    rw [HSM.out]
    clear hcv
    go_enter Try.func49, Try.ntmps49
    go_wp2_with fail
    refine (HIM.out _ h3).mono ?_
    rintro e w1 ⟨rfl, b1⟩
    go_wp2_with fail
    refine (HIC.out _).mono ?_
    rintro e w2 ⟨rfl, b2⟩
    have bb := hid (b1.trans (b2.mono b1.size))
    go_wp2
    exact bodyPost_ret (v := .tuple #[.bool true, .int .i64 0]) (by simp [results, Try.results49, go_sem]) rfl ⟨rfl, _, HOwn.out.below bb.out, Moved.ofBelow bb.out⟩

end Go.Proofs.Yteblnejpohjjmaa

/- AskLock of the program. -/
namespace Go.Proofs.Yteblnejpohjjmaa
open Go.RowKit

theorem Ch.with_mem {r : Int} {ls : List Ch.Lock} {x : Ch.Lock} (h : x ∈ Ch.withL r ls) : x ∈ ls ∨ x = ⟨r, [], []⟩ := by
  unfold Ch.withL at h
  split at h
  · exact .inl h
  · simp only [List.mem_append, List.mem_singleton] at h
    rcases h with (h | h) | h
    · exact .inl (List.mem_of_mem_take h)
    · exact .inr h
    · exact .inl (List.mem_of_mem_drop h)
theorem Ch.lk_mem {ls : List Ch.Lock} {i : Nat} (h : i < ls.length) : Ch.lkAt ls i ∈ ls := by
  unfold Ch.lkAt
  rw [List.getD_eq_getElem?_getD, List.getElem?_eq_getElem h]
  exact List.getElem_mem h
theorem Ch.mem_lk {ls : List Ch.Lock} {x : Ch.Lock} (h : x ∈ ls) : ∃ i, i < ls.length ∧ Ch.lkAt ls i = x := by
  obtain ⟨i, hi, rfl⟩ := List.mem_iff_getElem.1 h
  refine ⟨i, hi, ?_⟩
  unfold Ch.lkAt
  rw [List.getD_eq_getElem?_getD, List.getElem?_eq_getElem hi]
  rfl
theorem Ch.good_mem {ls : List Ch.Lock} (h : Ch.locksFault ls = 0) {x : Ch.Lock} (hx : x ∈ ls) : Ch.lockFault x = 0 := by
  obtain ⟨i, hi, rfl⟩ := Ch.mem_lk hx
  exact (Ch.one_good ((Ch.locks_good h).1 i hi)).2.2.2
theorem Ch.with_at {ls : List Ch.Lock} (h : Ch.locksFault ls = 0) (r : Int) : (Ch.lkAt (Ch.withL r ls) (Ch.placeR r ls)).hs.length ≤ 20 ∧ (Ch.lkAt (Ch.withL r ls) (Ch.placeR r ls)).qs.length ≤ 20 ∧ Ch.namesH (Ch.lkAt (Ch.withL r ls) (Ch.placeR r ls)).hs = true ∧ Ch.namesH (Ch.lkAt (Ch.withL r ls) (Ch.placeR r ls)).qs = true := by
  rcases Ch.with_mem (Ch.lk_mem (Ch.with_len r ls).1) with hx | hx
  · have := Ch.lock_good (Ch.good_mem h hx)
    exact ⟨this.1, this.2.1, this.2.2.1, this.2.2.2.1⟩
  · rw [hx]; exact ⟨by simp, by simp, rfl, rfl⟩
theorem Ch.cov_none {m : Int} (h : Ch.inB m 1 5 = true) : Ch.covers 0 m = false := by
  simp only [Ch.inB, Bool.and_eq_true, decide_eq_true_eq] at h
  obtain rfl | rfl | rfl | rfl | rfl : m = 1 ∨ m = 2 ∨ m = 3 ∨ m = 4 ∨ m = 5 := by omega
  all_goals rfl
theorem Ch.join_none {m : Int} (h : Ch.inB m 1 5 = true) : Ch.join 0 m = m := by
  simp only [Ch.inB, Bool.and_eq_true, decide_eq_true_eq] at h
  obtain rfl | rfl | rfl | rfl | rfl : m = 1 ∨ m = 2 ∨ m = 3 ∨ m = 4 ∨ m = 5 := by omega
  all_goals rfl
theorem Ch.held_isM {m : Int} (h : Ch.inB m 1 5 = true) : Ch.isM m = true := by
  simp only [Ch.isM, Ch.inB, Bool.and_eq_true, decide_eq_true_eq] at h ⊢; omega
theorem Ch.putH_pos (hs : List Ch.Hold) (h : Ch.Hold) : 0 < (Ch.putH hs h).length := by
  unfold Ch.putH
  split
  · next hh =>
    rw [List.length_set]
    cases hs with
    | nil => simp [Ch.hasH] at hh
    | cons => simp
  · simp
theorem Ch.enter_used {l : Ch.Lock} {k : Nat} {h : Ch.Hold} (h0 : (Ch.enterL l k h).2.1 = 0) : 0 < (Ch.enterL l k h).2.2.hs.length + (Ch.enterL l k h).2.2.qs.length := by
  unfold Ch.enterL at h0 ⊢
  split
  · next hh => rw [if_pos hh] at h0; simp at h0
  · simp; omega
theorem Ch.enter_size (l : Ch.Lock) (k : Nat) (h : Ch.Hold) (hk : k ≤ l.qs.length) : (Ch.enterL l k h).2.2.hs.length + (Ch.enterL l k h).2.2.qs.length ≤ l.hs.length + l.qs.length + 1 := by
  unfold Ch.enterL
  split
  · simp only; omega
  · simp; omega
theorem Ch.ask_used1 {l : Ch.Lock} {t m : Int} (hm : Ch.inB m 1 5 = true) (h0 : (Ch.askOne l t m).2.1 = 0) : 0 < (Ch.askOne l t m).2.2.hs.length + (Ch.askOne l t m).2.2.qs.length := by
  unfold Ch.askOne at h0 ⊢
  split
  · next hc =>
    simp only
    rcases Nat.eq_zero_or_pos l.hs.length with h | h
    · have : l.hs = [] := List.length_eq_zero_iff.1 h
      rw [this, show Ch.modeH [] t = 0 from rfl, Ch.cov_none hm] at hc
      cases hc
    · omega
  · next hc =>
    rw [if_neg hc] at h0
    split
    · next h1 => rw [if_pos h1] at h0; exact Ch.enter_used h0
    · next h1 =>
      rw [if_neg h1] at h0
      split
      · next h2 => rw [if_pos h2] at h0; exact Ch.enter_used h0
      · next h2 =>
        rw [if_neg h2] at h0
        split
        · next h3 => rw [if_pos h3] at h0; simp at h0
        · simp only
          have := Ch.putH_pos l.hs ⟨t, Ch.join (Ch.modeH l.hs t) m⟩
          omega
theorem Ch.ask_size1 (l : Ch.Lock) (t m : Int) : (Ch.askOne l t m).2.2.hs.length + (Ch.askOne l t m).2.2.qs.length ≤ l.hs.length + l.qs.length + 1 := by
  unfold Ch.askOne
  split
  · simp only; omega
  · split
    · exact Ch.enter_size _ _ _ (Nat.le_refl _)
    · split
      · exact Ch.enter_size _ _ _ (Ch.conv_le _ _)
      · split
        · simp only; omega
        · simp only
          have := Ch.putH_len l.hs ⟨t, Ch.join (Ch.modeH l.hs t) m⟩
          omega
theorem Ch.with_other {r : Int} {ls : List Ch.Lock} {i : Nat} (hi : i < (Ch.withL r ls).length) (hn : i ≠ Ch.placeR r ls) : Ch.lkAt (Ch.withL r ls) i ∈ ls := by
  unfold Ch.withL at hi ⊢
  split
  · next h => rw [if_pos h] at hi; exact Ch.lk_mem hi
  · next h =>
    rw [if_neg h] at hi
    have hp := Ch.place_le r ls
    rw [Ch.lk_ins _ _ _ _ hp]
    have hl : i < ls.length + 1 := by simp at hi; omega
    split
    · next h1 => exact Ch.lk_mem (by omega)
    · next h1 => exact Ch.lk_mem (by omega)
def Ch.askLs (ls : List Ch.Lock) (t r m : Int) : List Ch.Lock := (Ch.withL r ls).set (Ch.placeR r ls) (Ch.askAt ls t r m).2.2
theorem Ch.askLs_mem {ls : List Ch.Lock} {t r m : Int} {x : Ch.Lock} (h : x ∈ Ch.askLs ls t r m) : x ∈ ls ∨ x = (Ch.askAt ls t r m).2.2 := by
  obtain ⟨i, hi, rfl⟩ := Ch.mem_lk h
  unfold Ch.askLs at hi ⊢
  rw [lk_set _ _ _ _ (Ch.with_len r ls).1]
  split
  · exact .inr rfl
  · next hn => exact .inl (Ch.with_other (by simpa using hi) (fun e => hn e.symm))
theorem Ch.ask_filter {ls : List Ch.Lock} {t r m : Int} (hg : Ch.locksFault ls = 0) (hm : Ch.inB m 1 5 = true) (h0 : (Ch.askAt ls t r m).2.1 = 0) : (Ch.askLs ls t r m).filter Ch.usedL = Ch.askLs ls t r m := by
  refine List.filter_eq_self.2 fun x hx => ?_
  have hp : 0 < x.hs.length + x.qs.length := by
    rcases Ch.askLs_mem hx with h | h
    · exact (Ch.lock_good (Ch.good_mem hg h)).2.2.2.2.2.2.1
    · rw [h]; exact Ch.ask_used1 hm h0
  have h1 : (x.hs.length + x.qs.length == 0) = false := by rw [beq_eq_false_iff_ne]; omega
  unfold Ch.usedL
  rw [h1]; rfl
theorem Ch.ask_size {ls : List Ch.Lock} (hg : Ch.locksFault ls = 0) (t r m : Int) : Ch.lkSize (Ch.askLs ls t r m) ≤ 5000 := by
  have h1 : ∀ x ∈ Ch.askLs ls t r m, x.hs.length + x.qs.length ≤ 41 := by
    intro x hx
    rcases Ch.askLs_mem hx with h | h
    · have := Ch.lock_good (Ch.good_mem hg h); omega
    · rw [h]
      have h2 := Ch.ask_size1 (Ch.lkAt (Ch.withL r ls) (Ch.placeR r ls)) t m
      have h3 := Ch.with_at hg r
      unfold Ch.askAt; omega
  have h2 := Ch.size_bound h1
  have h3 := Ch.good_few hg
  have h4 := (Ch.with_len r ls).2
  have h5 : (Ch.askLs ls t r m).length = (Ch.withL r ls).length := by unfold Ch.askLs; simp
  rw [h5] at h2
  have : (41 + 1) * (Ch.withL r ls).length ≤ (41 + 1) * 102 := Nat.mul_le_mul_left _ (by omega)
  omega
theorem Ch.askR_c {ls : List Ch.Lock} {t r m c : Int} (h : Ch.askC ls t r m = c) (h0 : c ≠ 0) : Ch.askR ls t r m = (c, false, []) := by
  subst h; unfold Ch.askR; rw [if_pos (by simpa using h0)]
theorem Ch.askR_no {ls : List Ch.Lock} {t r m c : Int} (h : Ch.askC ls t r m = 0) (h1 : (Ch.askAt ls t r m).2.1 = c) (h0 : c ≠ 0) : Ch.askR ls t r m = (c, false, []) := by
  subst h1; unfold Ch.askR; rw [if_neg (by simp [h]), if_pos (by simpa using h0)]
theorem Ch.askR_ok {ls : List Ch.Lock} {t r m : Int} (h : Ch.askC ls t r m = 0) (h1 : (Ch.askAt ls t r m).2.1 = 0) : Ch.askR ls t r m = (0, (Ch.askAt ls t r m).1, Ch.askLs ls t r m) := by
  unfold Ch.askR; rw [if_neg (by simp [h]), if_neg (by simp [h1])]; rfl
theorem Ch.askC_bad {ls : List Ch.Lock} {t r m c : Int} (h : Ch.askedT ls t = c) (h0 : c ≠ 0) : Ch.askC ls t r m = c := by
  subst h; unfold Ch.askC; rw [if_pos (by simpa using h0)]
theorem Ch.askC_range {ls : List Ch.Lock} {t r m : Int} (h : Ch.askedT ls t = 0) (h1 : (Ch.inB r 0 100 && Ch.inB m 1 5) = false) : Ch.askC ls t r m = 3 := by
  unfold Ch.askC; rw [if_neg (by simp [h]), if_pos (by simp [h1])]
theorem Ch.askC_waits {ls : List Ch.Lock} {t r m : Int} (h : Ch.askedT ls t = 0) (h1 : (Ch.inB r 0 100 && Ch.inB m 1 5) = true) (h2 : Ch.waitsB ls t = true) : Ch.askC ls t r m = 10 := by
  unfold Ch.askC; rw [if_neg (by simp [h]), if_neg (by simp [h1]), if_pos h2]
theorem Ch.askC_ok {ls : List Ch.Lock} {t r m : Int} (h : Ch.askedT ls t = 0) (h1 : (Ch.inB r 0 100 && Ch.inB m 1 5) = true) (h2 : Ch.waitsB ls t = false) : Ch.askC ls t r m = 0 := by
  unfold Ch.askC; rw [if_neg (by simp [h]), if_neg (by simp [h1]), if_neg (by simp [h2])]

theorem isRes_at {v : Int} {b : Bool} (h : Ch.inB v 0 100 = b) (w : World) : Calls Try.prog 44 #[.int .i64 v] w fun e w' => e = .returned (.bool b) ∧ w' = w := h ▸ isRes_any v w
theorem heldMode_at {v : Int} {b : Bool} (h : Ch.inB v 1 5 = b) (w : World) : Calls Try.prog 45 #[.int .i64 v] w fun e w' => e = .returned (.bool b) ∧ w' = w := h ▸ heldMode_any v w

set_option linter.unusedSimpArgs false in
set_option maxRecDepth 20000 in
set_option maxHeartbeats 1000000 in
theorem implAsk_any (a : Option Addr) (n cap : Nat) (t res mode : Int) (ls : List Ch.Lock) (w : World) (h : LkAt w a n ls) (hs : Ch.lkSize ls ≤ 1048576) :
    Calls Try.prog 13 #[.slice a n cap, .int .i64 t, .int .i64 res, .int .i64 mode] w fun e w' => ∃ a2 m2 c2 vs, e = .returned (.agg #[.int .i64 (Ch.askR ls t res mode).1, .bool (Ch.askR ls t res mode).2.1, .slice none 0 0, .slice a2 m2 c2]) ∧ LkRes w' w.heap.size none 0 0 [] a2 m2 c2 (Ch.askR ls t res mode).2.2 vs ∧ Below w.heap.size w w' := by
  have IA := fun W hW => txnLocks_any a n cap t ls W hW hs
  have IW := fun W hW => resWaited_any a n cap t ls W hW hs
  have kA : ∀ o, Below w.heap.size w (w.alloc o) := fun o => (Below.refl _ _).alloc (Nat.le_refl _) o
  have HL := h.len
  have hn : n ≤ 1048576 := by unfold Ch.lkSize at hs; have := HL.out; omega
  obtain ⟨c, HC⟩ : ∃ c, Hid (Ch.askedT ls t = c) := ⟨_, rfl⟩
  rw [HC.out] at IA
  by_cases h0 : c = 0
  · subst h0
    have HG := hid (Ch.askedT_good HC.out).1
    cases hr : Ch.inB res 0 100
    · have IR := fun W => isRes_at hr W
      rw [Ch.askR_c (Ch.askC_range (r := res) (m := mode) HC.out (by simp [hr])) (by omega)]
      clear hr HC
      go_enter Try.func13, Try.ntmps13
      go_wp2_with fail
      refine (IA _ (h.below (kA _))).mono ?_
      rintro e w1 ⟨rfl, b1⟩
      have hR := heap_below b1 (heap_alloc_new w _)
      have BW := below_box b1
      have lz := (Array.getElem?_eq_some_iff.1 hR).1
      go_wp2_with fail
      refine (IR _).mono ?_
      rintro e w2 ⟨rfl, rfl⟩
      obtain ⟨⟨x0, x1, x2, x3⟩, f0, f1, f2, f3⟩ := row4 hR
      go_wp2
      exact bodyPost_ret (v := .agg #[.int .i64 3, .bool false, .slice none 0 0, .slice none 0 0]) (by simp [results, Try.results13, go_sem, x0, x1, x2, x3]) rfl ⟨none, 0, 0, [], rfl, ⟨World.ownsRow_nil _ _ _ _, OwnK.nil _ _ _, fun g hg => by simp [Value.ownBlock] at hg, by omega, by simp [Ch.lkSize, Ch.lkSum]⟩, (BW.setCell (p := ⟨w.heap.size, 0, none⟩) (Nat.le_refl _) _ |>.setCell (p := ⟨w.heap.size, 1, none⟩) (Nat.le_refl _) _ |>.setCell (p := ⟨w.heap.size, 2, none⟩) (Nat.le_refl _) _ |>.setCell (p := ⟨w.heap.size, 3, none⟩) (Nat.le_refl _) _)⟩
    cases hmo : Ch.inB mode 1 5
    · have IR := fun W => isRes_at hr W
      have IM := fun W => heldMode_at hmo W
      rw [Ch.askR_c (Ch.askC_range (r := res) (m := mode) HC.out (by simp [hmo])) (by omega)]
      clear hr HC hmo
      go_enter Try.func13, Try.ntmps13
      go_wp2_with fail
      refine (IA _ (h.below (kA _))).mono ?_
      rintro e w1 ⟨rfl, b1⟩
      have hR := heap_below b1 (heap_alloc_new w _)
      have BW := below_box b1
      have lz := (Array.getElem?_eq_some_iff.1 hR).1
      go_wp2_with fail
      refine (IR _).mono ?_
      rintro e w2 ⟨rfl, rfl⟩
      go_wp2_with fail
      refine (IM _).mono ?_
      rintro e w2 ⟨rfl, rfl⟩
      obtain ⟨⟨x0, x1, x2, x3⟩, f0, f1, f2, f3⟩ := row4 hR
      go_wp2
      exact bodyPost_ret (v := .agg #[.int .i64 3, .bool false, .slice none 0 0, .slice none 0 0]) (by simp [results, Try.results13, go_sem, x0, x1, x2, x3]) rfl ⟨none, 0, 0, [], rfl, ⟨World.ownsRow_nil _ _ _ _, OwnK.nil _ _ _, fun g hg => by simp [Value.ownBlock] at hg, by omega, by simp [Ch.lkSize, Ch.lkSum]⟩, (BW.setCell (p := ⟨w.heap.size, 0, none⟩) (Nat.le_refl _) _ |>.setCell (p := ⟨w.heap.size, 1, none⟩) (Nat.le_refl _) _ |>.setCell (p := ⟨w.heap.size, 2, none⟩) (Nat.le_refl _) _ |>.setCell (p := ⟨w.heap.size, 3, none⟩) (Nat.le_refl _) _)⟩
    have IR := fun W => isRes_at hr W
    have IM := fun W => heldMode_at hmo W
    have HRM : Hid ((Ch.inB res 0 100 && Ch.inB mode 1 5) = true) := by show _ = _; rw [hr, hmo]; rfl
    have HMB := hid hmo
    clear hr hmo
    cases hwt : Ch.waitsB ls t
    · have HWV : Ch.waitsV ls t = 0 := by unfold Ch.waitsV; rw [hwt]; rfl
      rw [hwt, HWV] at IW
      have HAC := hid (Ch.askC_ok HC.out HRM.out hwt)
      have HWA := hid (Ch.with_at HG.out res)
      have HMM := hid (Ch.held_isM HMB.out)
      clear HWV hwt HC HRM
      go_enter Try.func13, Try.ntmps13
      go_wp2_with fail
      refine (IA _ (h.below (kA _))).mono ?_
      rintro e w1 ⟨rfl, b1⟩
      have hR := heap_below b1 (heap_alloc_new w _)
      have BW := below_box b1
      have lz := (Array.getElem?_eq_some_iff.1 hR).1
      go_wp2_with fail
      refine (IR _).mono ?_
      rintro e w2 ⟨rfl, rfl⟩
      go_wp2_with fail
      refine (IM _).mono ?_
      rintro e w2 ⟨rfl, rfl⟩
      go_wp2_with fail
      refine (IW _ (h.below BW)).mono ?_
      rintro e w1' ⟨rfl, b1'⟩
      have hR := heap_below b1' hR
      have BW := BW.trans (b1'.mono BW.size)
      have lz := (Array.getElem?_eq_some_iff.1 hR).1
      clear b1 b1'
      clear IA IW IR IM
      generalize w1' = w1 at *
      go_wp2_with fail
      refine (openLocks_any a n cap ls _ (h.below BW) hs).mono ?_
      rintro e w2 ⟨a2, c2, rfl, ⟨vs2, own2⟩, b2⟩
      have hR2 := heap_below b2 hR
      have BW2 := BW.trans (b2.mono BW.size)
      clear hR BW
      go_wp2_with fail
      refine (withLock_any w1.heap.size a2 n c2 res ls vs2 _ own2 hn b2.size).mono ?_
      rintro e w3 ⟨a3, m3, c3, rfl, ⟨vs3, own3⟩, b3⟩
      have hR3 := heap_lower b3 lz hR2
      have BW3 := BW2.trans (b3.mono (by omega))
      have hs3 : w1.heap.size ≤ w3.heap.size := Nat.le_trans b2.size b3.size
      have HPL := hid (Ch.with_len res ls).1
      have hk3 : Ch.placeR res ls < m3 := by have h1 := own3.len; have := HPL.out; omega
      clear hR2 BW2 own2 b2
      obtain ⟨o, rfl⟩ := own3.rowAt hk3
      have IK := hid (fun hh hq hg => ask_any t mode w1.heap.size o m3 c3 (Ch.placeR res ls) (Ch.withL res ls) vs3 w3 own3 hk3 hs3 hh hq hg HMM.out)
      have IK := hid (IK.out (by have := HWA.out.1; omega) (by have := HWA.out.2.1; omega) HWA.out.2.2.1)
      have HO3 := hid own3
      have hm3 : m3 ≤ 102 := by have h1 := own3.len; have h2 := (Ch.with_len res ls).2; have h3 := Ch.good_few HG.out; omega
      clear own3
      have HLS : Hid (Ch.askLs ls t res mode = (Ch.withL res ls).set (Ch.placeR res ls) (Ch.askOne (Ch.lkAt (Ch.withL res ls) (Ch.placeR res ls)) t mode).2.2) := rfl
      have HAE : Hid (Ch.askAt ls t res mode = Ch.askOne (Ch.lkAt (Ch.withL res ls) (Ch.placeR res ls)) t mode) := rfl
      rw [← HLS.out, ← HAE.out] at IK
      generalize Ch.placeR res ls = pl at *
      obtain ⟨gr, HGR⟩ : ∃ gr, Hid ((Ch.askAt ls t res mode).1 = gr) := ⟨_, rfl⟩
      obtain ⟨c, HCD⟩ : ∃ c, Hid ((Ch.askAt ls t res mode).2.1 = c) := ⟨_, rfl⟩
      rw [HGR.out, HCD.out] at IK
      go_wp2_with fail
      refine IK.out.mono ?_
      rintro e w4 ⟨rfl, vs4, own4, mv4⟩
      have B4 := mv4.below HO3.out hs3
      have hR := heap_lower B4 lz hR3
      have BW := BW3.trans (B4.mono (by omega))
      have hs4 : w1.heap.size ≤ w4.heap.size := Nat.le_trans hs3 mv4.size
      clear hR3 BW3 IK mv4 B4
      by_cases hc0 : c = 0
      · subst hc0
        have HAR := hid (Ch.askR_ok HAC.out HCD.out)
        have HFI := hid (Ch.ask_filter HG.out HMB.out HCD.out)
        have HSI := hid (Ch.ask_size HG.out t res mode)
        rw [HGR.out] at HAR
        go_wp2_with fail
        refine (closeLocks_any w1.heap.size (some ⟨o, 0, none⟩) m3 c3 (Ch.askLs ls t res mode) vs4 _ own4 (by have := HSI.out; omega) hs4).mono ?_
        rintro e w5 ⟨a5, m5, c5, vs5, rfl, own5, hsub, hrow, b5⟩
        rw [HFI.out] at own5
        have hR5 := heap_below b5 hR
        obtain ⟨⟨x0, x1, x2, x3⟩, f0, f1, f2, f3⟩ := row4 hR5
        have lr3 := lt_of_cell x0
        have BW := BW.trans (b5.mono BW.size)
        have hwl : w.heap.size < w1.heap.size := lz
        have O5 := hid own5
        clear own5
        go_wp2
        refine bodyPost_ret (v := .agg #[.int .i64 0, .bool gr, .slice none 0 0, .slice a5 m5 c5]) (by simp [results, Try.results13, go_sem, x0, x1, x2, x3]) rfl ⟨a5, m5, c5, vs5, by rw [HAR.out], ⟨World.ownsRow_nil _ _ _ _, ?_, fun g hg => by simp [Value.ownBlock] at hg, by omega, by rw [HAR.out]; have := HSI.out; simp only; omega⟩, (BW.setCell (p := ⟨w.heap.size, 0, none⟩) (Nat.le_refl _) _ |>.setCell (p := ⟨w.heap.size, 1, none⟩) (Nat.le_refl _) _ |>.setCell (p := ⟨w.heap.size, 2, none⟩) (Nat.le_refl _) _ |>.setCell (p := ⟨w.heap.size, 3, none⟩) (Nat.le_refl _) _)⟩
        rw [HAR.out]
        simp only
        have hset : ∀ (W : World) (i : Nat) (u : Value), OwnK 83 W w1.heap.size (.slice a5 m5 c5) m5 (Ch.askLs ls t res mode) vs5 → OwnK 83 (W.setCell ⟨w.heap.size, i, none⟩ u) w1.heap.size (.slice a5 m5 c5) m5 (Ch.askLs ls t res mode) vs5 := fun W i u hh =>
          ⟨hh.len, hh.vlen, ownsRow_setCell_below hh.row hwl _, fun j p hp => ownsRow_setCell_below (hh.hs j p hp) hwl _, fun j p hp => ownsRow_setCell_below (hh.qs j p hp) hwl _, hh.apart⟩
        exact (hset _ _ _ (hset _ _ _ (hset _ _ _ (hset _ _ _ O5.out)))).base (by omega)
      · have HAR := hid (Ch.askR_no HAC.out HCD.out hc0)
        clear own4
        obtain ⟨⟨x0, x1, x2, x3⟩, f0, f1, f2, f3⟩ := row4 hR
        go_wp2
        exact bodyPost_ret (v := .agg #[.int .i64 c, .bool false, .slice none 0 0, .slice none 0 0]) (by simp [results, Try.results13, go_sem, x0, x1, x2, x3]) rfl ⟨none, 0, 0, [], by rw [HAR.out], ⟨World.ownsRow_nil _ _ _ _, by rw [HAR.out]; exact OwnK.nil _ _ _, fun g hg => by simp [Value.ownBlock] at hg, by omega, by rw [HAR.out]; simp [Ch.lkSize, Ch.lkSum]⟩, (BW.setCell (p := ⟨w.heap.size, 0, none⟩) (Nat.le_refl _) _ |>.setCell (p := ⟨w.heap.size, 1, none⟩) (Nat.le_refl _) _ |>.setCell (p := ⟨w.heap.size, 2, none⟩) (Nat.le_refl _) _ |>.setCell (p := ⟨w.heap.size, 3, none⟩) (Nat.le_refl _) _)⟩
    · rw [hwt] at IW
      rw [Ch.askR_c (Ch.askC_waits HC.out HRM.out hwt) (by omega)]
      clear hwt HC HRM
      go_enter Try.func13, Try.ntmps13
      go_wp2_with fail
      refine (IA _ (h.below (kA _))).mono ?_
      rintro e w1 ⟨rfl, b1⟩
      have hR := heap_below b1 (heap_alloc_new w _)
      have BW := below_box b1
      have lz := (Array.getElem?_eq_some_iff.1 hR).1
      go_wp2_with fail
      refine (IR _).mono ?_
      rintro e w2 ⟨rfl, rfl⟩
      go_wp2_with fail
      refine (IM _).mono ?_
      rintro e w2 ⟨rfl, rfl⟩
      go_wp2_with fail
      refine (IW _ (h.below BW)).mono ?_
      rintro e w1' ⟨rfl, b1'⟩
      have hR := heap_below b1' hR
      have BW := BW.trans (b1'.mono BW.size)
      have lz := (Array.getElem?_eq_some_iff.1 hR).1
      obtain ⟨⟨x0, x1, x2, x3⟩, f0, f1, f2, f3⟩ := row4 hR
      go_wp2
      exact bodyPost_ret (v := .agg #[.int .i64 10, .bool false, .slice none 0 0, .slice none 0 0]) (by simp [results, Try.results13, go_sem, x0, x1, x2, x3]) rfl ⟨none, 0, 0, [], rfl, ⟨World.ownsRow_nil _ _ _ _, OwnK.nil _ _ _, fun g hg => by simp [Value.ownBlock] at hg, by omega, by simp [Ch.lkSize, Ch.lkSum]⟩, (BW.setCell (p := ⟨w.heap.size, 0, none⟩) (Nat.le_refl _) _ |>.setCell (p := ⟨w.heap.size, 1, none⟩) (Nat.le_refl _) _ |>.setCell (p := ⟨w.heap.size, 2, none⟩) (Nat.le_refl _) _ |>.setCell (p := ⟨w.heap.size, 3, none⟩) (Nat.le_refl _) _)⟩
  · rw [Ch.askR_c (Ch.askC_bad HC.out h0) h0]
    clear HC
    go_enter Try.func13, Try.ntmps13
    go_wp2_with fail
    refine (IA _ (h.below (kA _))).mono ?_
    rintro e w1 ⟨rfl, b1⟩
    have hR := heap_below b1 (heap_alloc_new w _)
    have BW := below_box b1
    have lz := (Array.getElem?_eq_some_iff.1 hR).1
    obtain ⟨⟨x0, x1, x2, x3⟩, f0, f1, f2, f3⟩ := row4 hR
    go_wp2
    exact bodyPost_ret (v := .agg #[.int .i64 c, .bool false, .slice none 0 0, .slice none 0 0]) (by simp [results, Try.results13, go_sem, x0, x1, x2, x3]) rfl ⟨none, 0, 0, [], rfl, ⟨World.ownsRow_nil _ _ _ _, OwnK.nil _ _ _, fun g hg => by simp [Value.ownBlock] at hg, by omega, by simp [Ch.lkSize, Ch.lkSum]⟩, (BW.setCell (p := ⟨w.heap.size, 0, none⟩) (Nat.le_refl _) _ |>.setCell (p := ⟨w.heap.size, 1, none⟩) (Nat.le_refl _) _ |>.setCell (p := ⟨w.heap.size, 2, none⟩) (Nat.le_refl _) _ |>.setCell (p := ⟨w.heap.size, 3, none⟩) (Nat.le_refl _) _)⟩

end Go.Proofs.Yteblnejpohjjmaa

