
/- Walks of small functions of chapter 1 that others lean on: bounds, bytes, sums, copies, comparisons, marks. -/
import Derived.Test.YtoijjjckdggglaaGreatProg
import Derived.Test.YtoijjjckdggglaaGreatMath
import Derived.Test.YtoijjjckdggglaaGreatBase
import Derived.Deep.QuietTactic
import Derived.BigQuiet
import Derived.Deep.RegionWith
import Derived.Deep.RegionHeld3
import Derived.Deep.AppendLies
import Derived.Laws.BitsAllLaws
namespace Go.Proofs.YtoijjjckdggglaaGreat
open Go.RowKit

theorem in_any (v lo hi : Int) (w : World) :
    Calls Tryz.prog 57 #[.int .i64 v, .int .i64 lo, .int .i64 hi] w fun e w' => e = .returned (.bool (Ch.inB v lo hi)) ∧ w' = w := by
  unfold Ch.inB
  by_cases h1 : lo ≤ v
  all_goals by_cases h2 : v ≤ hi
  all_goals
    go_enter Tryz.func57, Tryz.ntmps57
    go_wp2
    go_ret
    exact ⟨by simp [h1, h2], rfl⟩

theorem key_any (v : Int) (w : World) :
    Calls Tryz.prog 59 #[.int .i64 v] w fun e w' => e = .returned (.bool (Ch.inB v 0 99)) ∧ w' = w := by
  go_enter Tryz.func59, Tryz.ntmps59
  go_wp2_with (go_at_call 57; refine (in_any _ _ _ _).mono ?_; rintro e w' ⟨rfl, rfl⟩)
  go_ret
  exact ⟨rfl, rfl⟩

theorem value_any (v : Int) (w : World) :
    Calls Tryz.prog 60 #[.int .i64 v] w fun e w' => e = .returned (.bool (Ch.inB v 0 9999)) ∧ w' = w := by
  go_enter Tryz.func60, Tryz.ntmps60
  go_wp2_with (go_at_call 57; refine (in_any _ _ _ _).mono ?_; rintro e w' ⟨rfl, rfl⟩)
  go_ret
  exact ⟨rfl, rfl⟩

theorem isKey_any (v : Int) (w : World) :
    Calls Tryz.prog 83 #[.int .i64 v] w fun e w' => e = .returned (.bool (Ch.inB v 0 99)) ∧ w' = w := by
  unfold Ch.inB
  by_cases h1 : 0 ≤ v
  all_goals by_cases h2 : v ≤ 99
  all_goals
    go_enter Tryz.func83, Tryz.ntmps83
    go_wp2
    go_ret
    exact ⟨by simp [h1, h2], rfl⟩

theorem isValue_any (v : Int) (w : World) :
    Calls Tryz.prog 84 #[.int .i64 v] w fun e w' => e = .returned (.bool (Ch.inB v 0 9999)) ∧ w' = w := by
  unfold Ch.inB
  by_cases h1 : 0 ≤ v
  all_goals by_cases h2 : v ≤ 9999
  all_goals
    go_enter Tryz.func84, Tryz.ntmps84
    go_wp2
    go_ret
    exact ⟨by simp [h1, h2], rfl⟩

theorem Tryz.info5 : (Tryz.prog.info? 5).map (fun i => (i.zero, i.size, i.bytes)) = some (some (.int .u8 0), 1, 1) := by kernel_rfl

theorem ret_int {k : IntKind} {a b : Int} (h : a = b) : Ending.returned (.int k a) = .returned (.int k b) := by rw [h]

set_option maxHeartbeats 400000 in
theorem specSum_any (a : Option Addr) (n cap : Nat) (zs : List Int) (w : World) (h : CellsAt w a n (bts zs)) (hb : IsB zs) (hn : n ≤ 1099511627776) :
    Calls Tryz.prog 62 #[.slice a n cap] w fun e w' => e = .returned (.int .i64 (Ch.sumB zs)) ∧ w' = w := by
  have HL := h.len
  go_enter Tryz.func62, Tryz.ntmps62
  go_wp2
  go_loop [3, 4] (fun s i => ∃ k : Nat, k ≤ n ∧ i = .int .i64 k ∧ s = .int .i64 (Ch.sumB (zs.take k))) (fun _ i => n - (intOf i).toNat)
  case atStart => exact ⟨0, Nat.zero_le _, rfl, rfl⟩
  case round =>
    obtain ⟨k, hk, rfl, rfl⟩ := hrel
    obtain ⟨s0, s1⟩ := Ch.sumB_bd (zs.take k)
    by_cases hlt : k < n
    · obtain ⟨b, off, rfl, hc⟩ := h.at hlt
      obtain ⟨z0, z1⟩ := hb k
      have HS : Hid (Ch.sumB (zs.take (k + 1)) = Ch.sumStep (Ch.sumB (zs.take k)) (zs.getD k 0)) := Ch.sumB_snoc zs k (by have := HL.out; omega)
      generalize zs.getD k 0 = z at *
      generalize Ch.sumB (zs.take k) = s at *
      go_wp2
      go_round
      case rel => exact ⟨k + 1, by omega, by go_num, by rw [HS.out]; rfl⟩
      case measure => simp [intOf]; omega
    · go_wp2
      go_ret
      exact ⟨ret_int (by rw [List.take_of_length_le (by have := HL.out; omega)]), rfl⟩

set_option maxHeartbeats 400000 in
theorem implSum_any (a : Option Addr) (n cap : Nat) (zs : List Int) (w : World) (h : CellsAt w a n (bts zs)) (hb : IsB zs) (hn : n ≤ 1099511627776) :
    Calls Tryz.prog 97 #[.slice a n cap] w fun e w' => e = .returned (.int .i64 (Ch.sumB zs)) ∧ w' = w := by
  have HL := h.len
  go_enter Tryz.func97, Tryz.ntmps97
  go_wp2
  go_loop [3, 8] (fun s i => ∃ k : Nat, k ≤ n ∧ i = .int .i64 k ∧ s = .int .i64 (Ch.sumB (zs.take k))) (fun _ i => n - (intOf i).toNat)
  case atStart => exact ⟨0, Nat.zero_le _, rfl, rfl⟩
  case round =>
    obtain ⟨k, hk, rfl, rfl⟩ := hrel
    obtain ⟨s0, s1⟩ := Ch.sumB_bd (zs.take k)
    by_cases hlt : k < n
    · obtain ⟨b, off, rfl, hc⟩ := h.at hlt
      obtain ⟨z0, z1⟩ := hb k
      have HS : Hid (Ch.sumB (zs.take (k + 1)) = Ch.sumStep (Ch.sumB (zs.take k)) (zs.getD k 0)) := Ch.sumB_snoc zs k (by have := HL.out; omega)
      generalize zs.getD k 0 = z at *
      generalize Ch.sumB (zs.take k) = s at *
      go_wp2
      go_round
      case rel => exact ⟨k + 1, by omega, by go_num, by rw [HS.out]; rfl⟩
      case measure => simp [intOf]; omega
    · go_wp2
      go_ret
      exact ⟨ret_int (by rw [List.take_of_length_le (by have := HL.out; omega)]), rfl⟩

/-- What the copy holds behind k rounds. -/
def copied (zs : List Int) (n k : Nat) : List Value := bts (zs.take k) ++ List.replicate (n - k) (Value.int .u8 0)

theorem copied_zero (zs : List Int) (n : Nat) : (madeCells (Value.int .u8 0).cells (n * 1)).toList = copied zs n 0 := by
  have := toList_madeCells_one (.int .u8 0) (n * 1)
  simpa [copied, bts, Value.cells] using this

theorem copied_end {zs : List Int} {n : Nat} (h : n = zs.length) : copied zs n n = bts zs := by
  subst h; simp [copied]

theorem copied_set {zs : List Int} {n k : Nat} (h : n = zs.length) (hk : k < n) : (copied zs n k).set k (.int .u8 (zs.getD k 0)) = copied zs n (k + 1) := by
  subst h
  unfold copied bts
  rw [Ch.take_snoc zs 0 k hk, List.set_append_right _ _ (by simp; omega)]
  simp
  have : zs.length - k = zs.length - (k + 1) + 1 := by omega
  rw [this, List.replicate_succ]
  simp [Nat.min_eq_left (Nat.le_of_lt hk)]

set_option maxHeartbeats 400000 in
theorem toByteS_any (a : Option Addr) (n cap : Nat) (zs : List Int) (w : World) (h : CellsAt w a n (bts zs)) (hn : n ≤ 1099511627776) :
    Calls Tryz.prog 7 #[.slice a n cap] w fun e w' => e = .returned (.slice (some ⟨w.heap.size, 0, none⟩) n n) ∧
      w'.ownsRow w.heap.size 5 1 (.slice (some ⟨w.heap.size, 0, none⟩) n n) n (bts zs) ∧ Below w.heap.size w w' := by
  have HL := h.len
  obtain ⟨i0, hi, hz0, hz1, hz2⟩ := info_parts Tryz.info5
  go_enter Tryz.func7, Tryz.ntmps7
  go_wp2_with (at_make; refine wpList_make_full _ rfl _ _ 23 rfl w.heap.size 5 i0 (.int .u8 0) 1 Tryz.underlying23 hi hz0 hz1 .i64 .i64 _ _ n rfl rfl rfl rfl (by rw [hz2]; omega) (by unfold maxLen; omega) (Nat.le_refl _) ?_; intro w0 hown0 hgrow0)
  have hB0 : Below w.heap.size w w0 := (Below.refl _ _).grown hgrow0 (Nat.le_refl _) (by simp)
  go_loopw [4] (fun i wr => ∃ k : Nat, k ≤ n ∧ i = .int .i64 k ∧ wr.ownsRow w.heap.size 5 1 (.slice (some ⟨w.heap.size, 0, none⟩) n n) n (copied zs n k) ∧ Below w.heap.size w wr) (fun i _ => n - (intOf i).toNat)
  case atStart => exact ⟨0, Nat.zero_le _, rfl, by rw [← copied_zero]; exact hown0, hB0⟩
  case round =>
    obtain ⟨k, hk, rfl, hown, hB⟩ := hrel
    by_cases hlt : k < n
    · obtain ⟨b, off, rfl, hc⟩ := (h.below hB).at hlt
      have hfz := hown.frozenAt k
      have hS := hown.stored k (.int .u8 (zs.getD k 0))
      rw [copied_set HL.out hlt] at hS
      obtain ⟨u0, hcl⟩ := owns_some hown (j := k) (by omega)
      generalize zs.getD k 0 = z at *
      go_wp2
      go_roundw
      case rel => exact ⟨k + 1, by omega, by go_num, hS.1, hB.grown hS.2 (by have := hB.size; omega) (by simp)⟩
      case measure => simp [intOf]; omega
    · obtain rfl : k = n := by omega
      go_wp2
      go_ret
      exact ⟨rfl, by rw [copied_end HL.out] at hown; exact hown, hB⟩

set_option maxHeartbeats 400000 in
theorem eqByteS_same (a a' : Option Addr) (n cap cap' : Nat) (zs : List Int) (w : World) (h : CellsAt w a n (bts zs)) (h' : CellsAt w a' n (bts zs)) (hn : n ≤ 1099511627776) :
    Calls Tryz.prog 11 #[.slice a n cap, .slice a' n cap'] w fun e w' => e = .returned (.bool true) ∧ Below w.heap.size w w' := by
  have HL := h.len
  have hnn : ((n : Int) != n) = false := by simp
  go_enter Tryz.func11, Tryz.ntmps11
  go_wp2
  go_loopw [5] (fun i wr => ∃ k : Nat, k ≤ n ∧ i = .int .i64 k ∧ Below w.heap.size w wr) (fun i _ => n - (intOf i).toNat)
  case atStart => exact ⟨0, Nat.zero_le _, rfl, Below.refl _ _⟩
  case round =>
    obtain ⟨k, hk, rfl, hB⟩ := hrel
    by_cases hlt : k < n
    · obtain ⟨b, off, rfl, hc⟩ := (h.below hB).at hlt
      obtain ⟨b', off', rfl, hc'⟩ := (h'.below hB).at hlt
      generalize zs.getD k 0 = z at *
      have hzz : (z != z) = false := by simp
      go_wp2
      go_quiet (fail)
      go_wp2
      go_roundw
      case rel => exact ⟨k + 1, by omega, by go_num, below_drewN hB _⟩
      case measure => simp [intOf]; omega
    · obtain rfl : k = n := by omega
      go_wp2
      go_ret
      exact ⟨rfl, hB⟩

namespace Ch
/-- The marks that a law writes into bytes: 1, 2, .. modulo 256. -/
def marks (n : Nat) : List Int := (List.range n).map fun (i : Nat) => (1 + (i : Int)) % 256
theorem marks_len (n : Nat) : (marks n).length = n := by simp [marks]
theorem marks_snoc (n : Nat) : marks (n + 1) = marks n ++ [(1 + (n : Int)) % 256] := by simp [marks, List.range_succ]
theorem marks_at (n k : Nat) (h : k < n) : (marks n).getD k 0 = (1 + (k : Int)) % 256 := by simp [marks, List.getD, h]
theorem set_mid {α : Type} (l : List α) (zs : List α) (k : Nat) (v : α) (hl : l.length = k) (h : k < zs.length) : (l ++ zs.drop k).set k v = (l ++ [v]) ++ zs.drop (k + 1) := by
  rw [List.set_append_right _ _ (by omega), hl, Nat.sub_self, List.drop_eq_getElem_cons h, List.set_cons_zero]
  simp
end Ch

theorem hid {p : Prop} (h : p) : Hid p := h

/-- The bytes behind k marks. -/
def marked (zs : List Int) (k : Nat) : List Int := Ch.marks k ++ zs.drop k

theorem bts_append (a b : List Int) : bts (a ++ b) = bts a ++ bts b := by simp [bts]

theorem bts_set (zs : List Int) (k : Nat) (v : Int) : (bts zs).set k (.int .u8 v) = bts (zs.set k v) := by simp [bts, List.map_set]

theorem marked_set (zs : List Int) (k : Nat) (h : k < zs.length) : (bts (marked zs k)).set k (.int .u8 ((1 + (k : Int)) % 256)) = bts (marked zs (k + 1)) := by
  rw [bts_set]
  unfold marked
  rw [Ch.set_mid _ _ _ _ (Ch.marks_len k) h, Ch.marks_snoc]

theorem gr_trans {a b c : World} {g : Nat} (h : a.grownBy b (some g)) (k : b.grownBy c (some g)) : a.grownBy c (some g) :=
  ⟨k.os.trans h.os, k.tape.trans h.tape, k.output.trans h.output, Nat.le_trans h.size k.size, fun j hj hne => (k.block j (Nat.lt_of_lt_of_le hj h.size) hne).trans (h.block j hj hne)⟩

set_option maxHeartbeats 400000 in
theorem markByteS_any (B g n cp : Nat) (zs : List Int) (w : World) (hown : w.ownsRow B 5 1 (.slice (some ⟨g, 0, none⟩) n cp) n (bts zs)) (hn : n ≤ 1048579) :
    Calls Tryz.prog 13 #[.slice (some ⟨g, 0, none⟩) n cp, .int .i64 1] w fun e w' => e = .returned (.int .i64 (1 + n)) ∧ w'.ownsRow B 5 1 (.slice (some ⟨g, 0, none⟩) n cp) n (bts (Ch.marks n)) ∧ w.grownBy w' (some g) := by
  have HL : Hid (n = zs.length) := by
    have := hown.1
    simp [bts] at this
    exact this.symm
  go_enter Tryz.func13, Tryz.ntmps13
  go_wp2
  go_loopw [1, 5] (fun q i wr => ∃ k : Nat, k ≤ n ∧ i = .int .i64 k ∧ q = .int .i64 (1 + (k : Int)) ∧ wr.ownsRow B 5 1 (.slice (some ⟨g, 0, none⟩) n cp) n (bts (marked zs k)) ∧ w.grownBy wr (some g)) (fun _ i _ => n - (intOf i).toNat)
  case atStart => exact ⟨0, Nat.zero_le _, rfl, rfl, by simpa [marked, Ch.marks] using hown, ⟨rfl, rfl, rfl, Nat.le_refl _, fun _ _ _ => rfl⟩⟩
  case round =>
    obtain ⟨k, hk, rfl, rfl, own, gr⟩ := hrel
    by_cases hlt : k < n
    · have hf := own.frozenAt k
      obtain ⟨u0, hc⟩ := owns_some own (j := k) (by omega)
      have hS := own.stored k (.int .u8 ((1 + (k : Int)) % 256))
      rw [marked_set zs k (by have := HL.out; omega)] at hS
      go_wp2
      go_roundw
      case rel => exact ⟨k + 1, by omega, by go_num, by go_num, hS.1, gr_trans gr hS.2⟩
      case measure => simp [intOf]; omega
    · obtain rfl : k = n := by omega
      go_wp2
      go_ret
      refine ⟨rfl, ?_, gr⟩
      have := HL.out
      simpa [marked, this] using own

theorem markByteS_nil (w : World) : Calls Tryz.prog 13 #[.slice none 0 0, .int .i64 1] w fun e w' => e = .returned (.int .i64 1) ∧ w' = w := by
  go_enter Tryz.func13, Tryz.ntmps13
  go_wp2
  go_loop [1, 5] (fun q i => i = .int .i64 0 ∧ q = .int .i64 1) (fun _ _ => 0)
  case atStart => exact ⟨rfl, rfl⟩
  case round =>
    obtain ⟨rfl, rfl⟩ := hrel
    go_wp2
    go_ret
    exact ⟨rfl, rfl⟩

/-- Two bytes, the higher one first, as the model makes them. -/
theorem two_any (v : Int) (w : World) (h0 : 0 ≤ v) (h1 : v < 65536) :
    Calls Tryz.prog 61 #[.int .i64 v] w fun e w' => e = .returned (.slice (some ⟨w.heap.size, 0, none⟩) 2 2) ∧ w' = w.alloc (.cells #[.int .u8 (v / 256), .int .u8 (v % 256)] 5) := by
  go_enter Tryz.func61, Tryz.ntmps61
  go_wp2
  go_ret
  exact ⟨rfl, rfl⟩

/-- What an append of bytes does to the world: the row g became the row g'; below B, and in every other block, all is as it was. -/
structure Grew (B : Nat) (w w' : World) (g g' : Nat) : Prop where
  below : Below B w w'
  size : w.heap.size ≤ w'.heap.size
  here : g' = g ∨ g' = w.heap.size
  lt : g' < w'.heap.size
  blk : ∀ h, h < w.heap.size → h ≠ g → w'.heap[h]? = w.heap[h]?

theorem Grew.cell {B : Nat} {w w' : World} {g g' b o : Nat} (h : Grew B w w' g g') (hb : b < B) : w'.cell? ⟨b, o, none⟩ = w.cell? ⟨b, o, none⟩ := h.below.cell (p := ⟨b, o, none⟩) hb

theorem heap_new' {w : World} {o : Obj} {n : Nat} (h : n = w.heap.size) : (w.alloc o).heap[n]? = some o := by
  subst h; exact heap_alloc_new w o

theorem heap_old' {w : World} {o : Obj} {n : Nat} (h : n < w.heap.size) : (w.alloc o).heap[n]? = w.heap[n]? := Below.heap_alloc w o n h

theorem step_app {ops : Array Oper} {o : Oper} {a : Act} {w : World} {K : Act → World → Prop} {Q : Exit → Act → World → Prop} {E : Prop} (s x : Operand)
    (B g n cp : Nat) (xs : List Value) (m : Nat) (cs : Array Value) (hm : 0 < m ∧ cs.size = m ∧ n + m ≤ 1099511627776 ∧ B ≤ g)
    (ho : o.op = .call { callee := .builtin .append, args := #[s, x], argTypes := #[23, 23] }) (hgd : o.guard = none)
    (hs : a.eval s = .slice (some ⟨g, 0, none⟩) n cp) (hx : ∃ h c t, a.eval x = .slice (some ⟨h, 0, none⟩) m c ∧ w.heap[h]? = some (.cells cs t (0, 0)))
    (hown : w.ownsRow B 5 1 (.slice (some ⟨g, 0, none⟩) n cp) n xs) (h1 : ∀ u ∈ cs.toList, u.oneCell' = true) (hbase : B ≤ w.heap.size)
    (hK : ∀ g' cp' w', w'.ownsRow B 5 1 (.slice (some ⟨g', 0, none⟩) (n + m) cp') (n + m) (xs ++ cs.toList) → Grew B w w' g g' → K (a.put o.dst (.slice (some ⟨g', 0, none⟩) (n + m) cp')) w') :
    if Region.wanted o (yielded ops a.tmps) = true then Oper.wp Tryz.prog o a w K Q else E := by
  obtain ⟨hm, hl, hb, hgB⟩ := hm
  obtain ⟨h, c, t, hx, hblk⟩ := hx
  obtain ⟨i0, hi, hz0, hz1, hz2⟩ := info_parts Tryz.info5
  refine step_append_lies _ hgd s x 23 ho B 5 i0 _ 1 1 Tryz.underlying23 hi hz0 hz1 hz2 rfl (by omega) _ n xs hs hown ⟨h, 0, none⟩ m c cs.toList hx (by simpa using hl) (World.news_of_block hblk) h1 hm (by unfold maxLen; omega) (by omega) hbase _ rfl ?_
  intro g' cp' w' hown' hgrow hat hlt
  refine hK g' cp' w' hown' ⟨(Below.refl _ _).grown hgrow hbase (fun k hk => ?_), hgrow.size, ?_, hlt, fun k hk hne => hgrow.block k hk (by simpa [Value.ownBlock] using hne)⟩
  · simp [Value.ownBlock] at hk; omega
  · rcases hat with hat | hat
    · simp [Value.ownBlock] at hat; exact .inl hat.symm
    · exact .inr hat

theorem wpList_app {ops : Array Oper} {rest : List Oper} {o : Oper} {a : Act} {w : World} {Q : Exit → Act → World → Prop} (s x : Operand)
    (B g n cp : Nat) (xs : List Value) (m : Nat) (cs : Array Value) (hm : 0 < m ∧ cs.size = m ∧ n + m ≤ 1099511627776 ∧ B ≤ g)
    (ho : o.op = .call { callee := .builtin .append, args := #[s, x], argTypes := #[23, 23] }) (hgd : o.guard = none)
    (hs : a.eval s = .slice (some ⟨g, 0, none⟩) n cp) (hx : ∃ h c t, a.eval x = .slice (some ⟨h, 0, none⟩) m c ∧ w.heap[h]? = some (.cells cs t (0, 0)))
    (hown : w.ownsRow B 5 1 (.slice (some ⟨g, 0, none⟩) n cp) n xs) (h1 : ∀ u ∈ cs.toList, u.oneCell' = true) (hbase : B ≤ w.heap.size)
    (hK : ∀ g' cp' w', w'.ownsRow B 5 1 (.slice (some ⟨g', 0, none⟩) (n + m) cp') (n + m) (xs ++ cs.toList) → Grew B w w' g g' → wpList Tryz.prog ops Q rest (a.put o.dst (.slice (some ⟨g', 0, none⟩) (n + m) cp')) w') :
    wpList Tryz.prog ops Q (o :: rest) a w := by
  obtain ⟨hm, hl, hb, hgB⟩ := hm
  obtain ⟨h, c, t, hx, hblk⟩ := hx
  obtain ⟨i0, hi, hz0, hz1, hz2⟩ := info_parts Tryz.info5
  refine wpList_append_lies _ hgd s x 23 ho B 5 i0 _ 1 1 Tryz.underlying23 hi hz0 hz1 hz2 rfl (by omega) _ n xs hs hown ⟨h, 0, none⟩ m c cs.toList hx (by simpa using hl) (World.news_of_block hblk) h1 hm (by unfold maxLen; omega) (by omega) hbase _ rfl ?_
  intro g' cp' w' hown' hgrow hat hlt
  refine hK g' cp' w' hown' ⟨(Below.refl _ _).grown hgrow hbase (fun k hk => ?_), hgrow.size, ?_, hlt, fun k hk hne => hgrow.block k hk (by simpa [Value.ownBlock] using hne)⟩
  · simp [Value.ownBlock] at hk; omega
  · rcases hat with hat | hat
    · simp [Value.ownBlock] at hat; exact .inl hat.symm
    · exact .inr hat

theorem high_any (v : Int) (w : World) (h0 : 0 ≤ v) (h1 : v < 65536) :
    Calls Tryz.prog 78 #[.int .i64 v] w fun e w' => e = .returned (.int .u8 (v / 256)) ∧ w' = w := by
  go_enter Tryz.func78, Tryz.ntmps78
  go_wp2
  go_ret
  exact ⟨rfl, rfl⟩

theorem low_any (v : Int) (w : World) (h0 : 0 ≤ v) (h1 : v < 65536) :
    Calls Tryz.prog 79 #[.int .i64 v] w fun e w' => e = .returned (.int .u8 (v % 256)) ∧ w' = w := by
  go_enter Tryz.func79, Tryz.ntmps79
  go_wp2
  go_ret
  exact ⟨rfl, rfl⟩

set_option maxHeartbeats 1000000 in
theorem appendSum_any (B g n cp : Nat) (p : List Int) (w : World) (hown : w.ownsRow B 5 1 (.slice (some ⟨g, 0, none⟩) n cp) n (bts p)) (hB : B ≤ w.heap.size) (hn : n ≤ 1000000) (hb : IsB p) :
    Calls Tryz.prog 81 #[.slice (some ⟨g, 0, none⟩) n cp] w fun e w' => ∃ g' cp', e = .returned (.slice (some ⟨g', 0, none⟩) (n + 2) cp') ∧ w'.ownsRow B 5 1 (.slice (some ⟨g', 0, none⟩) (n + 2) cp') (n + 2) (bts (Ch.withSum p)) ∧ Below B w w' := by
  have hgB := owns_bounds hown
  obtain ⟨s0, s1⟩ := Ch.sumB_bd p
  have HE : Hid (bts p ++ [.int .u8 (Ch.sumB p / 256), .int .u8 (Ch.sumB p % 256)] = bts (Ch.withSum p)) := by
    show _ = _
    simp [Ch.withSum, bts]
  go_enter Tryz.func81, Tryz.ntmps81
  go_wp2_with fail
  refine (implSum_any _ n cp p _ (by simpa using owns_cells hown) hb (by omega)).mono ?_
  rintro e w1 ⟨rfl, rfl⟩
  generalize Ch.sumB p = q at *
  go_wp2_with fail
  refine (high_any _ _ s0 (by omega)).mono ?_
  rintro e w2 ⟨rfl, rfl⟩
  go_wp2_with fail
  refine (low_any _ _ s0 (by omega)).mono ?_
  rintro e w3 ⟨rfl, rfl⟩
  go_wp2_with (at_builtin; refine wpList_app (.tmp 6) (.tmp 11) B g n cp (bts p) 2 #[.int .u8 (q / 256), .int .u8 (q % 256)] ⟨by omega, rfl, by omega, by omega⟩ ?_ ?_ ?_ ?_ ?_ ?_ ?_ ?_; exact rfl; exact rfl; exact rfl; (refine ⟨_, _, 5, rfl, ?_⟩; exact heap_new' rfl); exact hown.alloc _; (simp [Value.oneCell']); (simp; omega); intro g1 c1 w4 own1 gr1)
  go_ret
  refine ⟨g1, c1, rfl, ?_, ((Below.refl _ _).alloc hB _).trans gr1.below⟩
  rw [← HE.out]
  exact own1

theorem or_join (x y : Int) (x0 : 0 ≤ x) (x1 : x ≤ 255) (y0 : 0 ≤ y) (y1 : y ≤ 255) : bits .or .u16 (x * 256) y = x * 256 + y := by
  rw [u16_or _ _ (by omega) (by omega) y0 (by omega)]
  obtain ⟨p, rfl⟩ := Int.eq_ofNat_of_zero_le x0
  obtain ⟨q, rfl⟩ := Int.eq_ofNat_of_zero_le y0
  have e : ((p : Int) * 256).toNat = p <<< 8 := by rw [Nat.shiftLeft_eq]; omega
  rw [e, Int.toNat_natCast, ← Nat.shiftLeft_add_eq_or_of_lt (show q < 2 ^ 8 by omega), Nat.shiftLeft_eq]
  omega

theorem join_any (x y : Int) (w : World) (x0 : 0 ≤ x) (x1 : x ≤ 255) (y0 : 0 ≤ y) (y1 : y ≤ 255) :
    Calls Tryz.prog 77 #[.int .u8 x, .int .u8 y] w fun e w' => e = .returned (.int .i64 (x * 256 + y)) ∧ w' = w := by
  have ho := or_join x y x0 x1 y0 y1
  go_enter Tryz.func77, Tryz.ntmps77
  go_wp2
  go_ret
  exact ⟨rfl, rfl⟩

set_option maxHeartbeats 400000 in
theorem take_any (a : Option Addr) (n cap k : Nat) (zs : List Int) (w : World) (h : CellsAt w a n (bts zs)) (hb : IsB zs) (hn : n ≤ 1099511627776) (hk : k + 1 < n) :
    Calls Tryz.prog 39 #[.slice a n cap, .int .i64 k] w fun e w' => e = .returned (.int .i64 (zs.getD k 0 * 256 + zs.getD (k + 1) 0)) ∧ ∃ q, w' = w.drewN q := by
  obtain ⟨b, off, rfl, hc⟩ := h.at (show k < n by omega)
  obtain ⟨b', off', hbo, hc'⟩ := h.at hk
  simp only [Option.some.injEq, Addr.mk.injEq, and_true] at hbo
  obtain ⟨rfl, rfl⟩ := hbo
  obtain ⟨x0, x1⟩ := hb k
  obtain ⟨y0, y1⟩ := hb (k + 1)
  generalize zs.getD k 0 = x at *
  generalize zs.getD (k + 1) 0 = y at *
  go_enter Tryz.func39, Tryz.ntmps39
  go_wp2
  go_quiet (fail)
  go_wp2
  go_ret
  exact ⟨rfl, _, rfl⟩

theorem owns_lt {w : World} {base : Nat} {e : TypeId} {size : Nat} {v : Value} {n : Nat} {xs : List Value} (h : w.ownsRow base e size v n xs) (g : Nat) (hg : v.ownBlock = some g) : base ≤ g ∧ g < w.heap.size := by
  rcases h.2 with ⟨hv, _⟩ | ⟨g', cap', cur, hv, hb, hh, _⟩
  · subst hv; simp [Value.ownBlock] at hg
  · subst hv
    simp [Value.ownBlock] at hg
    subst hg
    refine ⟨hb, ?_⟩
    by_cases hlt : g' < w.heap.size
    · exact hlt
    · rw [Array.getElem?_eq_none (by omega)] at hh; cases hh

theorem owns_grown {w w' : World} {base : Nat} {e : TypeId} {size : Nat} {v : Value} {n : Nat} {xs : List Value} {row : Option Nat} (h : w.ownsRow base e size v n xs) (hg : w.grownBy w' row) (hne : ∀ g, v.ownBlock = some g → row ≠ some g) : w'.ownsRow base e size v n xs := by
  refine ⟨h.1, ?_⟩
  rcases h.2 with h' | ⟨g, cap, cur, hv, hb, hh, h1, h2, h3, h4⟩
  · exact .inl h'
  · refine .inr ⟨g, cap, cur, hv, hb, ?_, h1, h2, h3, h4⟩
    have hlt := (owns_lt h g (by rw [hv]; rfl)).2
    have := hne g (by rw [hv]; rfl)
    rw [hg.block g hlt (fun e => this e.symm)]; exact hh

theorem grown_cell {w w' : World} {row : Option Nat} (hg : w.grownBy w' row) {b o : Nat} {v : Value} (h : w.cell? ⟨b, o, none⟩ = some v) (hne : row ≠ some b) : w'.cell? ⟨b, o, none⟩ = some v :=
  (World.grownBy.cell_far hg ⟨b, o, none⟩ (lt_of_cell h) (fun e => hne e.symm)).trans h

theorem cells_grown {w w' : World} {row : Option Nat} {a : Option Addr} {m : Nat} {xs : List Value} (h : CellsAt w a m xs) (hg : w.grownBy w' row) (hB : ∀ b off, a = some ⟨b, off, none⟩ → row ≠ some b) : CellsAt w' a m xs := by
  refine ⟨h.1, fun hm => ?_⟩
  obtain ⟨b, off, ha, hc⟩ := h.2 hm
  refine ⟨b, off, ha, fun i hi => ?_⟩
  have hx : xs[i]? = some (xs[i]'(by rw [h.1]; exact hi)) := by simp
  rw [hx]
  exact grown_cell hg ((hc i hi).trans hx) (hB b off ha)

theorem gr_alloc {w w' : World} {o : Obj} {row : Option Nat} (h : (w.alloc o).grownBy w' row) : w.grownBy w' row :=
  ⟨h.os, h.tape, h.output, by have := h.size; simp at this; omega, fun k hk hne => (h.block k (by simp; omega) hne).trans (Below.heap_alloc w o k hk)⟩

theorem toByteS_at (H : Nat) (a : Option Addr) (n cap : Nat) (zs : List Int) (w : World) (hH : w.heap.size = H) (h : CellsAt w a n (bts zs)) (hn : n ≤ 1099511627776) :
    Calls Tryz.prog 7 #[.slice a n cap] w fun e w' => e = .returned (.slice (some ⟨H, 0, none⟩) n n) ∧
      w'.ownsRow H 5 1 (.slice (some ⟨H, 0, none⟩) n n) n (bts zs) ∧ Below w.heap.size w w' := by
  subst hH
  exact toByteS_any a n cap zs w h hn

theorem owns_bytes {w : World} {base : Nat} {e : TypeId} {a : Option Addr} {n cap : Nat} {xs : List Value} (h : w.ownsRow base e 1 (.slice a n cap) n xs) : CellsAt w a n xs := by
  have := owns_cells h
  rwa [Nat.mul_one] at this

end Go.Proofs.YtoijjjckdggglaaGreat
