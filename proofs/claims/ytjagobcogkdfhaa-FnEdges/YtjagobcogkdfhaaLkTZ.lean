/- Several texts in one: LkS, LkT, LkN, LkK. -/
import Derived.Test.YtjagobcogkdfhaaLkO
import Derived.Test.YtjagobcogkdfhaaLkFG


/- Walks of the laws' functions on locks: sizes, copies, comparisons. -/
namespace Go.Proofs.Ytjagobcogkdfhaa
open Go.RowKit

theorem made_cells (z : Value) (n size : Nat) (hz : z.cells.size = size) (hs : 0 < size) (f : Nat → List Value) (hf : ∀ i, f i = z.cells.toList) : (madeCells z.cells (n * size)).toList = (List.range n).flatMap f := by
  have key : ∀ (l : List Nat) (j : Nat), j < l.length * size → (l.flatMap f)[j]? = z.cells[j % size]? := by
    intro l
    induction l with
    | nil => intro j hj; simp at hj
    | cons a l ih =>
      intro j hj
      rw [List.flatMap_cons]
      by_cases hjs : j < size
      · rw [List.getElem?_append_left (by rw [hf]; simpa [hz] using hjs), hf, Nat.mod_eq_of_lt hjs]; simp
      · rw [List.getElem?_append_right (by rw [hf]; simp [hz]; omega), hf]
        have hj2 : j - size < l.length * size := by
          simp only [List.length_cons, Nat.add_mul, Nat.one_mul] at hj; omega
        have := ih (j - size) hj2
        simp only [Array.length_toList, hz]
        rw [this]
        congr 1
        conv => rhs; rw [show j = j - size + size by omega]
        rw [Nat.add_mod_right]
  apply List.ext_getElem?
  intro j
  by_cases hj : j < n * size
  · rw [key (List.range n) j (by simpa using hj)]
    simp [madeCells, hj]
    rw [Array.getElem?_eq_getElem (by rw [hz]; exact Nat.mod_lt _ hs)]
    simp [hz]
    exact getElem!_pos z.cells (j % size) (by rw [hz]; exact Nat.mod_lt _ hs)
  · rw [List.getElem?_eq_none (by simp [madeCells]; omega), List.getElem?_eq_none (by
      have : ((List.range n).flatMap f).length = n * size := by
        have e : ∀ l : List Nat, (l.flatMap f).length = l.length * size := by
          intro l
          induction l with
          | nil => simp
          | cons a l ih => rw [List.flatMap_cons, List.length_append, ih, hf]; simp [hz, Nat.add_mul]; omega
        rw [e]; simp
      omega)]

theorem made_holds (n : Nat) : (madeCells (Value.agg #[.int .i64 0, .int .i64 0]).cells (n * 2)).toList = hcells (List.replicate n Ch.Hold.zero) := by
  rw [made_cells _ n 2 rfl (by decide) (fun _ => [.int .i64 0, .int .i64 0]) (fun _ => rfl)]
  induction n with
  | zero => rfl
  | succ n ih => rw [List.range_succ, List.flatMap_append, ih, List.replicate_succ', hcells_append]; rfl
def hcopied (rs : List Ch.Hold) (n k : Nat) : List Value := hcells (rs.take k ++ List.replicate (n - k) Ch.Hold.zero)
theorem hcopied_end {rs : List Ch.Hold} {n : Nat} (h : n = rs.length) : hcopied rs n n = hcells rs := by
  subst h; simp [hcopied]
theorem hcopied_set {rs : List Ch.Hold} {n k : Nat} (h : n = rs.length) (hk : k < n) : ((hcopied rs n k).set (k * 2) (.int .i64 (rs.getD k Ch.Hold.zero).t)).set (k * 2 + 1) (.int .i64 (rs.getD k Ch.Hold.zero).m) = hcopied rs n (k + 1) := by
  unfold hcopied
  rw [hcells_set _ _ _ (by simp; omega), fill_set rs _ _ n k h hk]
theorem owns_stored2 {w : World} {base : Nat} {e : TypeId} {size g n cap : Nat} {xs : List Value} (h : w.ownsRow base e size (.slice (some ⟨g, 0, none⟩) n cap) n xs) (j : Nat) (a b : Value) :
    ((w.setCell ⟨g, j, none⟩ a).setCell ⟨g, j + 1, none⟩ b).ownsRow base e size (.slice (some ⟨g, 0, none⟩) n cap) n ((xs.set j a).set (j + 1) b) :=
  ((h.stored j a).1.stored (j + 1) b).1

end Go.Proofs.Ytjagobcogkdfhaa


/- Walks of the laws' functions on locks: copies and comparisons of whole locks. -/
namespace Go.Proofs.Ytjagobcogkdfhaa
open Go.RowKit

theorem Try.info129 : (Try.prog.info? 129).map (fun i => (i.zero, i.size, i.bytes)) = some (some (.agg #[.int .i64 0, .slice none 0 0, .slice none 0 0]), 3, 56) := by kernel_rfl

theorem made_locks {w : World} {B n : Nat} {v : Value} (h : w.ownsRow B 129 3 v n (madeCells (Value.agg #[.int .i64 0, .slice none 0 0, .slice none 0 0]).cells (n * 3)).toList) : OwnLk 129 w B v n (List.replicate n Ch.Lock.zero) := by
  have e : (madeCells (Value.agg #[.int .i64 0, .slice none 0 0, .slice none 0 0]).cells (n * 3)).toList = lcells (List.replicate n Ch.Lock.zero) (List.replicate n (.slice none 0 0, .slice none 0 0)) := by
    rw [made_cells _ n 3 rfl (by decide) (fun _ => [.int .i64 0, .slice none 0 0, .slice none 0 0]) (fun _ => rfl)]
    clear h
    induction n with
    | zero => rfl
    | succ n ih => rw [List.range_succ, List.flatMap_append, ih, List.replicate_succ', List.replicate_succ', lcells_append (by simp)]; rfl
  rw [e] at h
  have hx : ∀ (i : Nat) (x : Value × Value), (List.replicate n ((.slice none 0 0, .slice none 0 0) : Value × Value))[i]? = some x → x = (.slice none 0 0, .slice none 0 0) := by
    intro i x hi
    rw [List.getElem?_replicate] at hi
    split at hi
    · cases hi; rfl
    · cases hi
  have hl : ∀ i, Ch.lkAt (List.replicate n Ch.Lock.zero) i = Ch.Lock.zero := by
    intro i
    unfold Ch.lkAt
    by_cases hi : i < n
    · simp [List.getD, hi]
    · simp [List.getD, hi]
  refine ⟨_, by simp, by simp, h, fun i p hp => ?_, fun i p hp => ?_, ?_⟩
  · rw [hx i p hp, hl]; exact World.ownsRow_nil _ _ _ _
  · rw [hx i p hp, hl]; exact World.ownsRow_nil _ _ _ _
  · have : (List.replicate n ((.slice none 0 0, .slice none 0 0) : Value × Value)).flatMap blks = [] := by
      rw [List.flatMap_eq_nil_iff]
      intro p hp
      rw [List.mem_replicate] at hp
      rw [hp.2]; rfl
    rw [this]
    cases v.ownBlock <;> simp

end Go.Proofs.Ytjagobcogkdfhaa


/- Lists of numbers: cells, comparisons, marks. -/
namespace Go.Proofs.Ytjagobcogkdfhaa
open Go.RowKit

def icells (zs : List Int) : List Value := zs.map (Value.int .i64)
theorem icells_len (zs : List Int) : (icells zs).length = zs.length := by simp [icells]
theorem icells_append (a b : List Int) : icells (a ++ b) = icells a ++ icells b := by simp [icells]
theorem icells_one' (zs : List Int) : ∀ u ∈ icells zs, u.oneCell' = true := by
  intro x hx
  simp only [icells, List.mem_map] at hx
  obtain ⟨r, _, rfl⟩ := hx
  rfl
theorem Try.info2 : (Try.prog.info? 2).map (fun i => (i.zero, i.size, i.bytes)) = some (some (.int .i64 0), 1, 8) := by kernel_rfl
theorem CellsAt.ilen {w : World} {a : Option Addr} {n : Nat} {zs : List Int} (h : CellsAt w a (n * 1) (icells zs)) : Hid (n = zs.length) := by
  have := h.1
  rw [icells_len] at this
  exact (by omega : n = zs.length)
theorem CellsAt.int {w : World} {a : Option Addr} {n : Nat} {zs : List Int} (h : CellsAt w a (n * 1) (icells zs)) {k : Nat} (hk : k < n) :
    ∃ b off, a = some ⟨b, off, none⟩ ∧ w.cell? ⟨b, off + k, none⟩ = some (.int .i64 (zs.getD k 0)) := by
  obtain ⟨b, off, ha, hc⟩ := h.2 (by omega)
  have hl := h.ilen.out
  refine ⟨b, off, ha, (hc k (by omega)).trans ?_⟩
  simp [icells, List.getD, show k < zs.length by omega]
theorem icells_set (zs : List Int) (k : Nat) (v : Int) : (icells zs).set k (.int .i64 v) = icells (zs.set k v) := by simp [icells, List.map_set]

set_option maxHeartbeats 400000 in
theorem eqInts_same (a a' : Option Addr) (n cap cap' : Nat) (zs : List Int) (w : World) (h : CellsAt w a (n * 1) (icells zs)) (h' : CellsAt w a' (n * 1) (icells zs)) (hn : n ≤ 4194304) :
    Calls Try.prog 123 #[.slice a n cap, .slice a' n cap'] w fun e w' => e = .returned (.bool true) ∧ Below w.heap.size w w' := by
  have hnn : ((n : Int) != n) = false := by simp
  go_enter Try.func123, Try.ntmps123
  go_wp2
  go_loopw [5] (fun i wr => ∃ k : Nat, k ≤ n ∧ i = .int .i64 k ∧ Below w.heap.size w wr) (fun i _ => n - (intOf i).toNat)
  case atStart => exact ⟨0, Nat.zero_le _, rfl, Below.refl _ _⟩
  case round =>
    obtain ⟨k, hk, rfl, hB⟩ := hrel
    by_cases hlt : k < n
    · obtain ⟨b, off, rfl, hc0⟩ := (h.below hB).int hlt
      obtain ⟨b', off', rfl, hd0⟩ := (h'.below hB).int hlt
      generalize zs.getD k 0 = r at *
      have hbl := lt_of_cell hc0
      have hbl' := lt_of_cell hd0
      have hrr : (r != r) = false := by simp
      go_wp2
      go_quiet (fail)
      go_wp2
      go_roundw
      case rel => exact ⟨k + 1, by omega, by go_num, hB.trans ⟨rfl, rfl, rfl, Nat.le_refl _, fun _ _ => rfl⟩⟩
      case measure => simp [intOf]; omega
    · obtain rfl : k = n := by omega
      go_wp2
      go_ret
      exact ⟨rfl, hB⟩

/-- The marks that a law writes into numbers, the first one s. -/
def imarks (s : Int) (n : Nat) : List Int := (List.range n).map fun (i : Nat) => s + (i : Int)
theorem imarks_len (s : Int) (n : Nat) : (imarks s n).length = n := by simp [imarks]
theorem imarks_snoc (s : Int) (n : Nat) : imarks s (n + 1) = imarks s n ++ [s + (n : Int)] := by simp [imarks, List.range_succ]
theorem imarks_at (s : Int) (n k : Nat) (h : k < n) : (imarks s n).getD k 0 = s + (k : Int) := by simp [imarks, List.getD, h]
def imarked (s : Int) (zs : List Int) (k : Nat) : List Int := imarks s k ++ zs.drop k
theorem imarked_set (s : Int) (zs : List Int) (k : Nat) (h : k < zs.length) : (icells (imarked s zs k)).set k (.int .i64 (s + (k : Int))) = icells (imarked s zs (k + 1)) := by
  rw [icells_set]
  unfold imarked
  rw [Ch.set_mid _ _ _ _ (imarks_len s k) h, imarks_snoc]

set_option maxHeartbeats 800000 in
theorem markInts_some (s : Int) (B g n cp : Nat) (zs : List Int) (w : World) (hs0 : 0 < s) (hs1 : s ≤ 1099511627776) (hown : w.ownsRow B 2 1 (.slice (some ⟨g, 0, none⟩) n cp) n (icells zs)) (hn : n ≤ 4194304) :
    Calls Try.prog 125 #[.slice (some ⟨g, 0, none⟩) n cp, .int .i64 s] w fun e w' => e = .returned (.int .i64 (s + n)) ∧ w'.ownsRow B 2 1 (.slice (some ⟨g, 0, none⟩) n cp) n (icells (imarks s n)) ∧ w.grownBy w' (some g) := by
  have HL := (owns_cells hown).ilen
  go_enter Try.func125, Try.ntmps125
  go_wp2
  go_loopw [1, 5] (fun q i wr => ∃ k : Nat, k ≤ n ∧ i = .int .i64 k ∧ q = .int .i64 (s + (k : Int)) ∧ wr.ownsRow B 2 1 (.slice (some ⟨g, 0, none⟩) n cp) n (icells (imarked s zs k)) ∧ w.grownBy wr (some g)) (fun _ i _ => n - (intOf i).toNat)
  case atStart => exact ⟨0, Nat.zero_le _, rfl, by simp, by simpa [imarked, imarks] using hown, ⟨rfl, rfl, rfl, Nat.le_refl _, fun _ _ _ => rfl⟩⟩
  case round =>
    obtain ⟨k, hk, rfl, rfl, own, gr⟩ := hrel
    by_cases hlt : k < n
    · have hf0 := own.frozenAt k
      obtain ⟨u0, hd0⟩ := owns_some own (j := k) (by omega)
      have HS := hid (imarked_set s zs k (by have := HL.out; omega))
      go_wp2
      go_roundw
      case rel =>
        refine ⟨k + 1, by omega, by go_num, by go_num, ?_, ?_⟩
        · rw [← HS.out]; exact (own.stored _ _).1
        · exact gr_trans gr (own.stored _ _).2
      case measure => simp [intOf]; omega
    · obtain rfl : k = n := by omega
      go_wp2
      go_ret
      refine ⟨rfl, ?_, gr⟩
      have := HL.out
      simpa [imarked, this] using own

theorem markInts_nil (s : Int) (w : World) : Calls Try.prog 125 #[.slice none 0 0, .int .i64 s] w fun e w' => e = .returned (.int .i64 s) ∧ w' = w := by
  go_enter Try.func125, Try.ntmps125
  go_wp2
  go_loop [1, 5] (fun q i => i = .int .i64 0 ∧ q = .int .i64 s) (fun _ _ => 0)
  case atStart => exact ⟨rfl, rfl⟩
  case round =>
    obtain ⟨rfl, rfl⟩ := hrel
    go_wp2
    go_ret
    exact ⟨rfl, rfl⟩

theorem markInts_any (s : Int) (B n : Nat) (a : Option Addr) (cap : Nat) (zs : List Int) (w : World) (hs0 : 0 < s) (hs1 : s ≤ 1099511627776) (hown : w.ownsRow B 2 1 (.slice a n cap) n (icells zs)) (hn : n ≤ 4194304) :
    Calls Try.prog 125 #[.slice a n cap, .int .i64 s] w fun e w' => e = .returned (.int .i64 (s + n)) ∧ w'.ownsRow B 2 1 (.slice a n cap) n (icells (imarks s n)) ∧ w.grownBy w' (Value.slice a n cap).ownBlock := by
  rcases hown.2 with ⟨hv, h0⟩ | ⟨g, cp, cur, hv, _⟩
  · simp only [Value.slice.injEq] at hv
    obtain ⟨rfl, rfl, rfl⟩ := hv
    refine (markInts_nil s w).mono ?_
    rintro e w1 ⟨rfl, rfl⟩
    exact ⟨by simp, World.ownsRow_nil _ _ _ _, ⟨rfl, rfl, rfl, Nat.le_refl _, fun _ _ _ => rfl⟩⟩
  · simp only [Value.slice.injEq, true_and] at hv
    obtain ⟨rfl, rfl⟩ := hv
    exact markInts_some s B g n cap zs w hs0 hs1 hown hn

set_option maxHeartbeats 400000 in
theorem heldInts_any (s : Int) (a : Option Addr) (n cp : Nat) (w : World) (hs0 : 0 < s) (hs1 : s ≤ 1099511627776) (h : CellsAt w a (n * 1) (icells (imarks s n))) (hn : n ≤ 4194304) :
    Calls Try.prog 126 #[.slice a n cp, .int .i64 s] w fun e w' => e = .returned (.int .i64 (s + n)) ∧ w' = w := by
  go_enter Try.func126, Try.ntmps126
  go_wp2
  go_loop [1, 5] (fun q i => ∃ k : Nat, k ≤ n ∧ i = .int .i64 k ∧ q = .int .i64 (s + (k : Int))) (fun _ i => n - (intOf i).toNat)
  case atStart => exact ⟨0, Nat.zero_le _, rfl, by simp⟩
  case round =>
    obtain ⟨k, hk, rfl, rfl⟩ := hrel
    by_cases hlt : k < n
    · obtain ⟨b, off, rfl, hc0⟩ := h.int hlt
      rw [imarks_at s n k hlt] at hc0
      have hbl := lt_of_cell hc0
      have hss : (s + (k : Int) != s + (k : Int)) = false := by simp
      go_wp2
      go_round
      case rel => exact ⟨k + 1, by omega, by go_num, by go_num⟩
      case measure => simp [intOf]; omega
    · obtain rfl : k = n := by omega
      go_wp2
      go_ret
      exact ⟨rfl, rfl⟩

set_option maxHeartbeats 400000 in
theorem eqIntsResult_same (c : Int) (a a' : Option Addr) (n cap cap' : Nat) (rs : List Int) (w : World) (h : CellsAt w a (n * 1) (icells rs)) (h' : CellsAt w a' (n * 1) (icells rs)) (hn : n ≤ 4194304) :
    Calls Try.prog 49 #[.agg #[.int .i64 c, .slice a n cap], .agg #[.int .i64 c, .slice a' n cap']] w fun e w' => e = .returned (.bool true) ∧ Below w.heap.size w w' := by
  have hcc : (c != c) = false := by simp
  have b0 : Below w.heap.size w ((w.alloc (.cells #[.int .i64 c, .slice a n cap] 51)).alloc (.cells #[.int .i64 c, .slice a' n cap'] 51)) := ((Below.refl _ _).alloc (Nat.le_refl _) _).alloc (by simp) _
  go_enter Try.func49, Try.ntmps49
  go_wp2_with fail
  refine (eqInts_same a a' n cap cap' rs _ (h.below b0) (h'.below b0) hn).mono ?_
  rintro e w1 ⟨rfl, b1⟩
  go_wp2
  go_ret
  exact ⟨rfl, b0.trans (b1.mono (by simp; omega))⟩

set_option maxHeartbeats 400000 in
theorem markIntsResult_any (c : Int) (B : Nat) (a : Option Addr) (n cap : Nat) (rs : List Int) (w : World) (hown : w.ownsRow B 2 1 (.slice a n cap) n (icells rs)) (hn : n ≤ 4194304) :
    Calls Try.prog 52 #[.agg #[.int .i64 c, .slice a n cap], .int .i64 1] w fun e w' => e = .returned (.int .i64 (1 + n)) ∧ w'.ownsRow B 2 1 (.slice a n cap) n (icells (imarks 1 n)) ∧ w.grownBy w' (Value.slice a n cap).ownBlock := by
  go_enter Try.func52, Try.ntmps52
  go_wp2_with fail
  refine (markInts_any 1 B n a cap rs _ (by decide) (by decide) (hown.alloc _) hn).mono ?_
  rintro e w1 ⟨rfl, own1, gr1⟩
  go_wp2
  go_ret
  exact ⟨rfl, own1, gr_alloc gr1⟩

set_option maxHeartbeats 400000 in
theorem heldIntsResult_any (c : Int) (a : Option Addr) (n cap : Nat) (w : World) (h : CellsAt w a (n * 1) (icells (imarks 1 n))) (hn : n ≤ 4194304) :
    Calls Try.prog 53 #[.agg #[.int .i64 c, .slice a n cap], .int .i64 1] w fun e w' => e = .returned (.int .i64 (1 + n)) ∧ Below w.heap.size w w' := by
  go_enter Try.func53, Try.ntmps53
  go_wp2_with fail
  refine (heldInts_any 1 a n cap _ (by decide) (by decide) (h.below ((Below.refl _ _).alloc (Nat.le_refl _) _)) hn).mono ?_
  rintro e w1 ⟨rfl, rfl⟩
  go_wp2
  go_ret
  exact ⟨rfl, (Below.refl _ _).alloc (Nat.le_refl _) _⟩
end Go.Proofs.Ytjagobcogkdfhaa


/- Marks that a law writes into holds and locks. -/
namespace Go.Proofs.Ytjagobcogkdfhaa
open Go.RowKit

def hmark (s : Int) (k : Nat) : Ch.Hold := ⟨s + 2 * (k : Int), s + 2 * (k : Int) + 1⟩
def hmarks (s : Int) (n : Nat) : List Ch.Hold := (List.range n).map (hmark s)
theorem hmarks_len (s : Int) (n : Nat) : (hmarks s n).length = n := by simp [hmarks]
theorem hmarks_snoc (s : Int) (n : Nat) : hmarks s (n + 1) = hmarks s n ++ [hmark s n] := by simp [hmarks, List.range_succ]
theorem hmarks_at (s : Int) (n k : Nat) (h : k < n) : (hmarks s n).getD k Ch.Hold.zero = hmark s k := by simp [hmarks, List.getD, h]
def hmarked (s : Int) (rs : List Ch.Hold) (k : Nat) : List Ch.Hold := hmarks s k ++ rs.drop k
theorem hmarked_set (s : Int) (rs : List Ch.Hold) (k : Nat) (h : k < rs.length) :
    ((hcells (hmarked s rs k)).set (k * 2) (.int .i64 (s + 2 * (k : Int)))).set (k * 2 + 1) (.int .i64 (s + 2 * (k : Int) + 1)) = hcells (hmarked s rs (k + 1)) := by
  have := hcells_set (hmarked s rs k) k (hmark s k) (by simp [hmarked, hmarks_len]; omega)
  rw [show hcells (hmarked s rs (k + 1)) = hcells ((hmarked s rs k).set k (hmark s k)) by unfold hmarked; rw [Ch.set_mid _ _ _ _ (hmarks_len s k) h, hmarks_snoc], ← this]
  rfl

/-- Where the marks of the k-th lock begin. -/
def Ch.pos (ls : List Ch.Lock) (k : Nat) : Nat := k + 2 * Ch.lkSum (ls.take k)
def lkMark (s : Int) (ls : List Ch.Lock) (k : Nat) : Ch.Lock := ⟨s + (Ch.pos ls k : Int), hmarks (s + (Ch.pos ls k : Int) + 1) (Ch.lkAt ls k).hs.length, hmarks (s + (Ch.pos ls k : Int) + 1 + 2 * ((Ch.lkAt ls k).hs.length : Int)) (Ch.lkAt ls k).qs.length⟩
def lkMarks (s : Int) (ls : List Ch.Lock) : List Ch.Lock := (List.range ls.length).map (lkMark s ls)
def lkMarked (s : Int) (ls : List Ch.Lock) (k : Nat) : List Ch.Lock := (List.range k).map (lkMark s ls) ++ ls.drop k
theorem lkMarked_set (s : Int) (ls : List Ch.Lock) (k : Nat) (h : k < ls.length) : (lkMarked s ls k).set k (lkMark s ls k) = lkMarked s ls (k + 1) := by
  unfold lkMarked
  rw [Ch.set_mid _ _ _ _ (by simp) h, List.range_succ]
  simp
theorem lkMarked_at (s : Int) (ls : List Ch.Lock) (k : Nat) : Ch.lkAt (lkMarked s ls k) k = Ch.lkAt ls k := by
  unfold lkMarked Ch.lkAt
  rw [List.getD, List.getElem?_append_right (by simp)]
  simp [List.getD]
theorem lkMarks_at (s : Int) (ls : List Ch.Lock) (k : Nat) (h : k < ls.length) : Ch.lkAt (lkMarks s ls) k = lkMark s ls k := by
  unfold lkMarks Ch.lkAt
  simp [List.getD, h]
theorem Ch.pos_next (ls : List Ch.Lock) (k : Nat) (h : k < ls.length) : Ch.pos ls (k + 1) = Ch.pos ls k + 1 + 2 * (Ch.lkAt ls k).hs.length + 2 * (Ch.lkAt ls k).qs.length := by
  unfold Ch.pos
  rw [Ch.lk_take ls k h]
  omega
theorem Ch.pos_small {ls : List Ch.Lock} {N : Nat} (hs : Ch.lkSize ls ≤ N) (k : Nat) (hk : k ≤ ls.length) : Ch.pos ls k ≤ 2 * N := by
  have := Ch.lk_le ls k
  unfold Ch.lkSize at hs
  unfold Ch.pos
  omega

theorem lcells_r {ls ls' : List Ch.Lock} {vs : List (Value × Value)} (h : ls.map (·.r) = ls'.map (·.r)) : lcells ls vs = lcells ls' vs := by
  induction ls generalizing ls' vs with
  | nil =>
    cases ls' with
    | nil => rfl
    | cons l ls' => simp at h
  | cons l ls ih =>
    cases ls' with
    | nil => simp at h
    | cons l' ls' =>
      simp at h
      cases vs with
      | nil => rfl
      | cons v vs =>
        have := ih (ls' := ls') (vs := vs) h.2
        simp only [lcells, List.zip_cons_cons, List.flatMap_cons] at *
        rw [this, h.1]
theorem map_r_set (ls : List Ch.Lock) (k : Nat) (l : Ch.Lock) (h : l.r = (Ch.lkAt ls k).r) : (ls.set k l).map (·.r) = ls.map (·.r) := by
  apply List.ext_getElem?
  intro i
  simp only [List.getElem?_map, List.getElem?_set]
  by_cases hik : k = i
  · subst hik
    rw [if_pos rfl]
    by_cases hk : k < ls.length
    · rw [if_pos hk]
      unfold Ch.lkAt at h
      simp [List.getD, hk] at h
      simp [hk, h]
    · rw [if_neg hk]
      simp [List.getElem?_eq_none (Nat.le_of_not_lt hk)]
  · rw [if_neg hik]

theorem set_same {α : Type} {l : List α} {k : Nat} {v : α} (h : l[k]? = some v) : l.set k v = l := by
  have hk : k < l.length := (List.getElem?_eq_some_iff.1 h).1
  apply List.ext_getElem?
  intro i
  by_cases e : k = i
  · subst e; rw [List.getElem?_set_self hk, h]
  · rw [List.getElem?_set_ne e]

/-- One lock's lists are written, where they lie. -/
theorem OwnK.turn {T : TypeId} {w w' : World} {B n : Nat} {v : Value} {ls : List Ch.Lock} {vs : List (Value × Value)} (h : OwnK T w B v n ls vs) {k : Nat} {p : Value × Value} (hp : vs[k]? = some p) {row : Option Nat} (hg : w.grownBy w' row) (hrow : ∀ g, row = some g → g ∈ blks p) (l : Ch.Lock) (hr : l.r = (Ch.lkAt ls k).r)
    (o1 : w'.ownsRow B 131 2 p.1 l.hs.length (hcells l.hs)) (o2 : w'.ownsRow B 131 2 p.2 l.qs.length (hcells l.qs)) : OwnK T w' B v n (ls.set k l) vs := by
  have hk := h.in hp
  have hkl : k < ls.length := by rw [h.len]; exact hk
  refine ⟨by simpa using h.len, h.vlen, ?_, fun i q hq => ?_, fun i q hq => ?_, h.apart⟩
  · rw [lcells_r (map_r_set ls k l hr)]
    exact owns_grown h.row hg fun g hgv e => apart_row h.apart hp hgv (hrow g e)
  · rw [lk_set ls k i l hkl]
    by_cases hik : k = i
    · subst hik
      rw [hp] at hq; cases hq
      rw [if_pos rfl]; exact o1
    · rw [if_neg hik]
      refine owns_grown (h.hs i q hq) hg fun g hgq e => ?_
      exact apart_two h.apart (fun e => hik e.symm) hq hp (by simp [blks, hgq]) (hrow g e)
  · rw [lk_set ls k i l hkl]
    by_cases hik : k = i
    · subst hik
      rw [hp] at hq; cases hq
      rw [if_pos rfl]; exact o2
    · rw [if_neg hik]
      refine owns_grown (h.qs i q hq) hg fun g hgq e => ?_
      exact apart_two h.apart (fun e => hik e.symm) hq hp (by simp [blks, hgq]) (hrow g e)
/-- A lock's number is written. -/
theorem OwnK.res {T : TypeId} {w : World} {B n o cap : Nat} {ls : List Ch.Lock} {vs : List (Value × Value)} (h : OwnK T w B (.slice (some ⟨o, 0, none⟩) n cap) n ls vs) {k : Nat} (hk : k < n) (r : Int) :
    OwnK T (w.setCell ⟨o, k * 3, none⟩ (.int .i64 r)) B (.slice (some ⟨o, 0, none⟩) n cap) n (ls.set k { Ch.lkAt ls k with r := r }) vs ∧ w.grownBy (w.setCell ⟨o, k * 3, none⟩ (.int .i64 r)) (some o) := by
  obtain ⟨p, hp⟩ := h.got hk
  have hkl : k < ls.length := by rw [h.len]; exact hk
  have hst := h.row.stored (k * 3) (.int .i64 r)
  have hno : ∀ i q, vs[i]? = some q → o ∉ blks q := fun i q hq => apart_row h.apart hq rfl
  have hat := lcells_at (ls := ls) (by rw [h.len, h.vlen]) hp
  refine ⟨⟨by simpa using h.len, h.vlen, ?_, fun i q hq => ?_, fun i q hq => ?_, h.apart⟩, hst.2⟩
  · have e := lcells_set (ls := ls) (vs := vs) k { Ch.lkAt ls k with r := r } p.1 p.2 (by rw [h.len, h.vlen]) hkl
    rw [show vs.set k (p.1, p.2) = vs from set_same hp] at e
    rw [← e]
    have e2 : ((((lcells ls vs).set (k * 3) (.int .i64 r)).set (k * 3 + 1) p.1).set (k * 3 + 2) p.2) = (lcells ls vs).set (k * 3) (.int .i64 r) := by
      rw [show ((lcells ls vs).set (k * 3) (.int .i64 r)).set (k * 3 + 1) p.1 = (lcells ls vs).set (k * 3) (.int .i64 r) from set_same (by rw [List.getElem?_set_ne (by omega)]; exact hat.2.1)]
      exact set_same (by rw [List.getElem?_set_ne (by omega)]; exact hat.2.2)
    rw [e2]
    exact hst.1
  · have := owns_grown (h.hs i q hq) hst.2 fun g hg e => by simp at e; subst e; exact hno i q hq (by simp [blks, hg])
    rw [lk_set ls k i _ hkl]
    split
    · next e => subst e; exact this
    · exact this
  · have := owns_grown (h.qs i q hq) hst.2 fun g hg e => by simp at e; subst e; exact hno i q hq (by simp [blks, hg])
    rw [lk_set ls k i _ hkl]
    split
    · next e => subst e; exact this
    · exact this

theorem OwnK.rowAt {T : TypeId} {w : World} {B n cap : Nat} {a : Option Addr} {ls : List Ch.Lock} {vs : List (Value × Value)} (h : OwnK T w B (.slice a n cap) n ls vs) {k : Nat} (hk : k < n) : ∃ o, a = some ⟨o, 0, none⟩ := by
  rcases h.row.2 with ⟨hv, h0⟩ | ⟨g, cp, cur, hv, _⟩
  · omega
  · simp only [Value.slice.injEq, true_and] at hv
    exact ⟨g, hv.1⟩

end Go.Proofs.Ytjagobcogkdfhaa

