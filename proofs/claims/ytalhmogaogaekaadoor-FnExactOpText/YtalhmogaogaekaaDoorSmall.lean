
/- Walks of small functions of chapter 1 that others lean on: bounds, bytes, sums, copies, comparisons, marks. -/
import Derived.Test.YtalhmogaogaekaaDoorProg
import Derived.Test.YtalhmogaogaekaaDoorMath
import Derived.Test.YtalhmogaogaekaaDoorBase
import Derived.Deep.QuietTactic
import Derived.BigQuiet
import Derived.Deep.RegionWith
import Derived.Deep.RegionHeld3
import Derived.Deep.AppendLies
import Derived.Laws.BitsAllLaws
namespace Go.Proofs.YtalhmogaogaekaaDoor
open Go.RowKit

theorem in_any (v lo hi : Int) (w : World) :
    Calls Tryd.prog 30 #[.int .i64 v, .int .i64 lo, .int .i64 hi] w fun e w' => e = .returned (.bool (Ch.inB v lo hi)) ∧ w' = w := by
  unfold Ch.inB
  by_cases h1 : lo ≤ v
  all_goals by_cases h2 : v ≤ hi
  all_goals
    go_enter Tryd.func30, Tryd.ntmps30
    go_wp2
    go_ret
    exact ⟨by simp [h1, h2], rfl⟩

theorem key_any (v : Int) (w : World) :
    Calls Tryd.prog 31 #[.int .i64 v] w fun e w' => e = .returned (.bool (Ch.inB v 0 99)) ∧ w' = w := by
  go_enter Tryd.func31, Tryd.ntmps31
  go_wp2_with (go_at_call 30; refine (in_any _ _ _ _).mono ?_; rintro e w' ⟨rfl, rfl⟩)
  go_ret
  exact ⟨rfl, rfl⟩

theorem value_any (v : Int) (w : World) :
    Calls Tryd.prog 32 #[.int .i64 v] w fun e w' => e = .returned (.bool (Ch.inB v 0 9999)) ∧ w' = w := by
  go_enter Tryd.func32, Tryd.ntmps32
  go_wp2_with (go_at_call 30; refine (in_any _ _ _ _).mono ?_; rintro e w' ⟨rfl, rfl⟩)
  go_ret
  exact ⟨rfl, rfl⟩

theorem isKey_any (v : Int) (w : World) :
    Calls Tryd.prog 41 #[.int .i64 v] w fun e w' => e = .returned (.bool (Ch.inB v 0 99)) ∧ w' = w := by
  unfold Ch.inB
  by_cases h1 : 0 ≤ v
  all_goals by_cases h2 : v ≤ 99
  all_goals
    go_enter Tryd.func41, Tryd.ntmps41
    go_wp2
    go_ret
    exact ⟨by simp [h1, h2], rfl⟩

theorem isValue_any (v : Int) (w : World) :
    Calls Tryd.prog 42 #[.int .i64 v] w fun e w' => e = .returned (.bool (Ch.inB v 0 9999)) ∧ w' = w := by
  unfold Ch.inB
  by_cases h1 : 0 ≤ v
  all_goals by_cases h2 : v ≤ 9999
  all_goals
    go_enter Tryd.func42, Tryd.ntmps42
    go_wp2
    go_ret
    exact ⟨by simp [h1, h2], rfl⟩

theorem Tryd.info5 : (Tryd.prog.info? 5).map (fun i => (i.zero, i.size, i.bytes)) = some (some (.int .u8 0), 1, 1) := by kernel_rfl

theorem ret_int {k : IntKind} {a b : Int} (h : a = b) : Ending.returned (.int k a) = .returned (.int k b) := by rw [h]

/-- What the copy holds behind k rounds. -/
def copied (zs : List Int) (n k : Nat) : List Value := bts (zs.take k) ++ List.replicate (n - k) (Value.int .u8 0)

theorem copied_zero (zs : List Int) (n : Nat) : (madeCells (Value.int .u8 0).cells (n * 1)).toList = copied zs n 0 := by
  have := toList_madeCells_one (.int .u8 0) (n * 1)
  simpa [copied, bts, Value.cells] using this

theorem copied_end {zs : List Int} {n : Nat} (h : n = zs.length) : copied zs n n = bts zs := by
  subst h; simp [copied]

theorem copied_set {zs : List Int} {n k : Nat} (h : n = zs.length) (hk : k < n) : (copied zs n k).set k (.int .u8 (zs.getD k 0)) = copied zs n (k + 1) := by
  subst h
  unfold copied bts
  rw [Ch.take_snoc zs 0 k hk, List.set_append_right _ _ (by simp; omega)]
  simp
  have : zs.length - k = zs.length - (k + 1) + 1 := by omega
  rw [this, List.replicate_succ]
  simp [Nat.min_eq_left (Nat.le_of_lt hk)]

namespace Ch
/-- The marks that a law writes into bytes: 1, 2, .. modulo 256. -/
def marks (n : Nat) : List Int := (List.range n).map fun (i : Nat) => (1 + (i : Int)) % 256
theorem marks_len (n : Nat) : (marks n).length = n := by simp [marks]
theorem marks_snoc (n : Nat) : marks (n + 1) = marks n ++ [(1 + (n : Int)) % 256] := by simp [marks, List.range_succ]
theorem marks_at (n k : Nat) (h : k < n) : (marks n).getD k 0 = (1 + (k : Int)) % 256 := by simp [marks, List.getD, h]
theorem set_mid {α : Type} (l : List α) (zs : List α) (k : Nat) (v : α) (hl : l.length = k) (h : k < zs.length) : (l ++ zs.drop k).set k v = (l ++ [v]) ++ zs.drop (k + 1) := by
  rw [List.set_append_right _ _ (by omega), hl, Nat.sub_self, List.drop_eq_getElem_cons h, List.set_cons_zero]
  simp
end Ch

theorem hid {p : Prop} (h : p) : Hid p := h

/-- The bytes behind k marks. -/
def marked (zs : List Int) (k : Nat) : List Int := Ch.marks k ++ zs.drop k

theorem bts_append (a b : List Int) : bts (a ++ b) = bts a ++ bts b := by simp [bts]

theorem bts_set (zs : List Int) (k : Nat) (v : Int) : (bts zs).set k (.int .u8 v) = bts (zs.set k v) := by simp [bts, List.map_set]

theorem marked_set (zs : List Int) (k : Nat) (h : k < zs.length) : (bts (marked zs k)).set k (.int .u8 ((1 + (k : Int)) % 256)) = bts (marked zs (k + 1)) := by
  rw [bts_set]
  unfold marked
  rw [Ch.set_mid _ _ _ _ (Ch.marks_len k) h, Ch.marks_snoc]

theorem gr_trans {a b c : World} {g : Nat} (h : a.grownBy b (some g)) (k : b.grownBy c (some g)) : a.grownBy c (some g) :=
  ⟨k.os.trans h.os, k.tape.trans h.tape, k.output.trans h.output, Nat.le_trans h.size k.size, fun j hj hne => (k.block j (Nat.lt_of_lt_of_le hj h.size) hne).trans (h.block j hj hne)⟩

/-- What an append of bytes does to the world: the row g became the row g'; below B, and in every other block, all is as it was. -/
structure Grew (B : Nat) (w w' : World) (g g' : Nat) : Prop where
  below : Below B w w'
  size : w.heap.size ≤ w'.heap.size
  here : g' = g ∨ g' = w.heap.size
  lt : g' < w'.heap.size
  blk : ∀ h, h < w.heap.size → h ≠ g → w'.heap[h]? = w.heap[h]?

theorem Grew.cell {B : Nat} {w w' : World} {g g' b o : Nat} (h : Grew B w w' g g') (hb : b < B) : w'.cell? ⟨b, o, none⟩ = w.cell? ⟨b, o, none⟩ := h.below.cell (p := ⟨b, o, none⟩) hb

theorem heap_new' {w : World} {o : Obj} {n : Nat} (h : n = w.heap.size) : (w.alloc o).heap[n]? = some o := by
  subst h; exact heap_alloc_new w o

theorem heap_old' {w : World} {o : Obj} {n : Nat} (h : n < w.heap.size) : (w.alloc o).heap[n]? = w.heap[n]? := Below.heap_alloc w o n h

theorem step_app {ops : Array Oper} {o : Oper} {a : Act} {w : World} {K : Act → World → Prop} {Q : Exit → Act → World → Prop} {E : Prop} (s x : Operand)
    (B g n cp : Nat) (xs : List Value) (m : Nat) (cs : Array Value) (hm : 0 < m ∧ cs.size = m ∧ n + m ≤ 1099511627776 ∧ B ≤ g)
    (ho : o.op = .call { callee := .builtin .append, args := #[s, x], argTypes := #[58, 58] }) (hgd : o.guard = none)
    (hs : a.eval s = .slice (some ⟨g, 0, none⟩) n cp) (hx : ∃ h c t, a.eval x = .slice (some ⟨h, 0, none⟩) m c ∧ w.heap[h]? = some (.cells cs t (0, 0)))
    (hown : w.ownsRow B 5 1 (.slice (some ⟨g, 0, none⟩) n cp) n xs) (h1 : ∀ u ∈ cs.toList, u.oneCell' = true) (hbase : B ≤ w.heap.size)
    (hK : ∀ g' cp' w', w'.ownsRow B 5 1 (.slice (some ⟨g', 0, none⟩) (n + m) cp') (n + m) (xs ++ cs.toList) → Grew B w w' g g' → K (a.put o.dst (.slice (some ⟨g', 0, none⟩) (n + m) cp')) w') :
    if Region.wanted o (yielded ops a.tmps) = true then Oper.wp Tryd.prog o a w K Q else E := by
  obtain ⟨hm, hl, hb, hgB⟩ := hm
  obtain ⟨h, c, t, hx, hblk⟩ := hx
  obtain ⟨i0, hi, hz0, hz1, hz2⟩ := info_parts Tryd.info5
  refine step_append_lies _ hgd s x 58 ho B 5 i0 _ 1 1 Tryd.underlying58 hi hz0 hz1 hz2 rfl (by omega) _ n xs hs hown ⟨h, 0, none⟩ m c cs.toList hx (by simpa using hl) (World.news_of_block hblk) h1 hm (by unfold maxLen; omega) (by omega) hbase _ rfl ?_
  intro g' cp' w' hown' hgrow hat hlt
  refine hK g' cp' w' hown' ⟨(Below.refl _ _).grown hgrow hbase (fun k hk => ?_), hgrow.size, ?_, hlt, fun k hk hne => hgrow.block k hk (by simpa [Value.ownBlock] using hne)⟩
  · simp [Value.ownBlock] at hk; omega
  · rcases hat with hat | hat
    · simp [Value.ownBlock] at hat; exact .inl hat.symm
    · exact .inr hat

theorem wpList_app {ops : Array Oper} {rest : List Oper} {o : Oper} {a : Act} {w : World} {Q : Exit → Act → World → Prop} (s x : Operand)
    (B g n cp : Nat) (xs : List Value) (m : Nat) (cs : Array Value) (hm : 0 < m ∧ cs.size = m ∧ n + m ≤ 1099511627776 ∧ B ≤ g)
    (ho : o.op = .call { callee := .builtin .append, args := #[s, x], argTypes := #[58, 58] }) (hgd : o.guard = none)
    (hs : a.eval s = .slice (some ⟨g, 0, none⟩) n cp) (hx : ∃ h c t, a.eval x = .slice (some ⟨h, 0, none⟩) m c ∧ w.heap[h]? = some (.cells cs t (0, 0)))
    (hown : w.ownsRow B 5 1 (.slice (some ⟨g, 0, none⟩) n cp) n xs) (h1 : ∀ u ∈ cs.toList, u.oneCell' = true) (hbase : B ≤ w.heap.size)
    (hK : ∀ g' cp' w', w'.ownsRow B 5 1 (.slice (some ⟨g', 0, none⟩) (n + m) cp') (n + m) (xs ++ cs.toList) → Grew B w w' g g' → wpList Tryd.prog ops Q rest (a.put o.dst (.slice (some ⟨g', 0, none⟩) (n + m) cp')) w') :
    wpList Tryd.prog ops Q (o :: rest) a w := by
  obtain ⟨hm, hl, hb, hgB⟩ := hm
  obtain ⟨h, c, t, hx, hblk⟩ := hx
  obtain ⟨i0, hi, hz0, hz1, hz2⟩ := info_parts Tryd.info5
  refine wpList_append_lies _ hgd s x 58 ho B 5 i0 _ 1 1 Tryd.underlying58 hi hz0 hz1 hz2 rfl (by omega) _ n xs hs hown ⟨h, 0, none⟩ m c cs.toList hx (by simpa using hl) (World.news_of_block hblk) h1 hm (by unfold maxLen; omega) (by omega) hbase _ rfl ?_
  intro g' cp' w' hown' hgrow hat hlt
  refine hK g' cp' w' hown' ⟨(Below.refl _ _).grown hgrow hbase (fun k hk => ?_), hgrow.size, ?_, hlt, fun k hk hne => hgrow.block k hk (by simpa [Value.ownBlock] using hne)⟩
  · simp [Value.ownBlock] at hk; omega
  · rcases hat with hat | hat
    · simp [Value.ownBlock] at hat; exact .inl hat.symm
    · exact .inr hat

theorem or_join (x y : Int) (x0 : 0 ≤ x) (x1 : x ≤ 255) (y0 : 0 ≤ y) (y1 : y ≤ 255) : bits .or .u16 (x * 256) y = x * 256 + y := by
  rw [u16_or _ _ (by omega) (by omega) y0 (by omega)]
  obtain ⟨p, rfl⟩ := Int.eq_ofNat_of_zero_le x0
  obtain ⟨q, rfl⟩ := Int.eq_ofNat_of_zero_le y0
  have e : ((p : Int) * 256).toNat = p <<< 8 := by rw [Nat.shiftLeft_eq]; omega
  rw [e, Int.toNat_natCast, ← Nat.shiftLeft_add_eq_or_of_lt (show q < 2 ^ 8 by omega), Nat.shiftLeft_eq]
  omega

theorem owns_lt {w : World} {base : Nat} {e : TypeId} {size : Nat} {v : Value} {n : Nat} {xs : List Value} (h : w.ownsRow base e size v n xs) (g : Nat) (hg : v.ownBlock = some g) : base ≤ g ∧ g < w.heap.size := by
  rcases h.2 with ⟨hv, _⟩ | ⟨g', cap', cur, hv, hb, hh, _⟩
  · subst hv; simp [Value.ownBlock] at hg
  · subst hv
    simp [Value.ownBlock] at hg
    subst hg
    refine ⟨hb, ?_⟩
    by_cases hlt : g' < w.heap.size
    · exact hlt
    · rw [Array.getElem?_eq_none (by omega)] at hh; cases hh

theorem owns_grown {w w' : World} {base : Nat} {e : TypeId} {size : Nat} {v : Value} {n : Nat} {xs : List Value} {row : Option Nat} (h : w.ownsRow base e size v n xs) (hg : w.grownBy w' row) (hne : ∀ g, v.ownBlock = some g → row ≠ some g) : w'.ownsRow base e size v n xs := by
  refine ⟨h.1, ?_⟩
  rcases h.2 with h' | ⟨g, cap, cur, hv, hb, hh, h1, h2, h3, h4⟩
  · exact .inl h'
  · refine .inr ⟨g, cap, cur, hv, hb, ?_, h1, h2, h3, h4⟩
    have hlt := (owns_lt h g (by rw [hv]; rfl)).2
    have := hne g (by rw [hv]; rfl)
    rw [hg.block g hlt (fun e => this e.symm)]; exact hh

theorem grown_cell {w w' : World} {row : Option Nat} (hg : w.grownBy w' row) {b o : Nat} {v : Value} (h : w.cell? ⟨b, o, none⟩ = some v) (hne : row ≠ some b) : w'.cell? ⟨b, o, none⟩ = some v :=
  (World.grownBy.cell_far hg ⟨b, o, none⟩ (lt_of_cell h) (fun e => hne e.symm)).trans h

theorem cells_grown {w w' : World} {row : Option Nat} {a : Option Addr} {m : Nat} {xs : List Value} (h : CellsAt w a m xs) (hg : w.grownBy w' row) (hB : ∀ b off, a = some ⟨b, off, none⟩ → row ≠ some b) : CellsAt w' a m xs := by
  refine ⟨h.1, fun hm => ?_⟩
  obtain ⟨b, off, ha, hc⟩ := h.2 hm
  refine ⟨b, off, ha, fun i hi => ?_⟩
  have hx : xs[i]? = some (xs[i]'(by rw [h.1]; exact hi)) := by simp
  rw [hx]
  exact grown_cell hg ((hc i hi).trans hx) (hB b off ha)

theorem gr_alloc {w w' : World} {o : Obj} {row : Option Nat} (h : (w.alloc o).grownBy w' row) : w.grownBy w' row :=
  ⟨h.os, h.tape, h.output, by have := h.size; simp at this; omega, fun k hk hne => (h.block k (by simp; omega) hne).trans (Below.heap_alloc w o k hk)⟩

theorem owns_bytes {w : World} {base : Nat} {e : TypeId} {a : Option Addr} {n cap : Nat} {xs : List Value} (h : w.ownsRow base e 1 (.slice a n cap) n xs) : CellsAt w a n xs := by
  have := owns_cells h
  rwa [Nat.mul_one] at this

end Go.Proofs.YtalhmogaogaekaaDoor
