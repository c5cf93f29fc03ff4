/- Reading rows out of bytes: the program's. -/
import Derived.Test.YthkbaabfhbjbgaaUnpA
import Derived.Laws.CopyOwn
import Derived.Deep.RegionLaw
namespace Go.Proofs.Ythkbaabfhbjbgaa
open Go.RowKit

theorem cells_four {w : World} {b off n k : Nat} {zs : List Int} (h : CellsAt w (some ⟨b, off, none⟩) n (bts zs)) (hk : 4 * k + 3 < n) :
    ∀ j v, [Value.int .u8 (zs.getD (4 * k) 0), .int .u8 (zs.getD (4 * k + 1) 0), .int .u8 (zs.getD (4 * k + 2) 0), .int .u8 (zs.getD (4 * k + 3) 0)][j]? = some v → w.cell? ((⟨b, off + 4 * k, none⟩ : Addr).add j) = some v := by
  intro j v hj
  have e : (⟨b, off + 4 * k, none⟩ : Addr).add j = ⟨b, off + (4 * k + j), none⟩ := by
    unfold Addr.add
    split
    · next h0 => subst h0; rfl
    · simp [Nat.add_assoc]
  rw [e]
  match j, hj with
  | 0, hj =>
    obtain ⟨b', off', hbo, hc⟩ := h.at (show 4 * k < n by omega)
    simp only [Option.some.injEq, Addr.mk.injEq, and_true] at hbo
    obtain ⟨rfl, rfl⟩ := hbo
    simp at hj; subst hj; exact hc
  | 1, hj =>
    obtain ⟨b', off', hbo, hc⟩ := h.at (show 4 * k + 1 < n by omega)
    simp only [Option.some.injEq, Addr.mk.injEq, and_true] at hbo
    obtain ⟨rfl, rfl⟩ := hbo
    simp at hj; subst hj; exact hc
  | 2, hj =>
    obtain ⟨b', off', hbo, hc⟩ := h.at (show 4 * k + 2 < n by omega)
    simp only [Option.some.injEq, Addr.mk.injEq, and_true] at hbo
    obtain ⟨rfl, rfl⟩ := hbo
    simp at hj; subst hj; exact hc
  | 3, hj =>
    obtain ⟨b', off', hbo, hc⟩ := h.at (show 4 * k + 3 < n by omega)
    simp only [Option.some.injEq, Addr.mk.injEq, and_true] at hbo
    obtain ⟨rfl, rfl⟩ := hbo
    simp at hj; subst hj; exact hc
  | j + 4, hj => simp at hj

/-- Four bytes copied into an array of four. -/
theorem step_copy4 {ops : Array Oper} {o : Oper} {a : Act} {w : World} {K : Act → World → Prop} {Q : Exit → Act → World → Prop} {E : Prop} (d s : Operand) (g B : Nat) (w0 : World) (c0 c1 c2 c3 z0 z1 z2 z3 : Value)
    (ho : o.op = .call { callee := .builtin .copy, args := #[d, s], argTypes := #[22, 22] }) (hgd : o.guard = none)
    (hd : a.eval d = .slice (some ⟨g, 0, none⟩) 4 4) (hs : ∃ ad n c, a.eval s = .slice (some ad) n c ∧ 4 ≤ n ∧ ∀ j v, [c0, c1, c2, c3][j]? = some v → w.cell? (ad.add j) = some v)
    (hg : w.heap[g]? = some (.cells #[z0, z1, z2, z3] 60 (0, 0))) (h1 : ∀ v ∈ [c0, c1, c2, c3], v.oneCell' = true) (hb : Below B w0 w) (hBg : B ≤ g)
    (h : ∀ w', Hid (w'.heap[g]? = some (.cells #[c0, c1, c2, c3] 60 (0, 0))) → Below B w0 w' → K (a.put o.dst (goInt 4)) w') :
    if Region.wanted o (yielded ops a.tmps) = true then Oper.wp Try.prog o a w K Q else E := by
  obtain ⟨ad, n, c, hs, h4, hsrc⟩ := hs
  refine step_copy_splice hgd d s 22 22 ho 5 Try.underlying22 ?_ _ _ 4 4 n c hd hs g 0 [z0, z1, z2, z3] 60 hg [c0, c1, c2, c3] ?_ (fun _ => ⟨rfl, ad, rfl, hsrc⟩) (by simp) h1 B w0 hb hBg ?_
  · have := Try.info5
    obtain ⟨i, hi, hz⟩ := Option.map_eq_some_iff.1 this
    simp only [Prod.mk.injEq] at hz
    simp [hi, hz.2.1]
  · simp [Nat.min_def]; omega
  · intro w' hw' hB'
    exact h w' hw'.out hB'

/-- No row's last byte is above 1. -/
def Ch.GoodTo (zs : List Int) (k : Nat) : Prop := ∀ i, i < k → zs.getD (4 * i + 3) 0 ≤ 1

set_option maxHeartbeats 2000000 in
theorem readRows_ok (a : Option Addr) (n cap m : Nat) (zs : List Int) (w : World) (h : CellsAt w a n (bts zs)) (hb : IsB zs) (hm : n = 4 * m) (hn : n ≤ 2000) (hcap : n ≤ cap) (hg : Ch.GoodTo zs m) :
    Calls Try.prog 59 #[.slice a n cap] w fun e w' => ∃ a' c', e = .returned (.slice a' m c') ∧ w'.ownsRow w.heap.size 36 3 (.slice a' m c') m (rcells (Ch.rowsIn zs m)) ∧ Below w.heap.size w w' := by
  have HM : Hid (n = 4 * m) := hm
  have hnm : n ≤ 4 * m := by omega
  have hmn : 4 * m ≤ n := by omega
  clear hm
  go_enter Try.func59, Try.ntmps59
  go_wp2
  go_loopw [3, 4] (fun v i wr => ∃ (k : Nat) (a' : Option Addr) (c' : Nat), k ≤ m ∧ i = .int .i64 (4 * (k : Int)) ∧ v = .slice a' k c' ∧ wr.ownsRow w.heap.size 36 3 (.slice a' k c') k (rcells (Ch.rowsIn zs k)) ∧ Below w.heap.size w wr) (fun _ i _ => n - (intOf i).toNat)
  case atStart => exact ⟨0, none, 0, Nat.zero_le _, rfl, rfl, World.ownsRow_nil _ _ _ _, Below.refl _ _⟩
  case round =>
    obtain ⟨k, a', c', hk, rfl, rfl, own, hB⟩ := hrel
    by_cases hlt : k < m
    · have hwr := h.below hB
      obtain ⟨b, off, rfl, _⟩ := hwr.at (show 4 * k < n by omega)
      have h4 := cells_four hwr (show 4 * k + 3 < n by omega)
      have hgood := hg k hlt
      have i1 : (0 : Int) ≤ 4 * (k : Int) := by omega
      have i2 : 4 * (k : Int) < (n : Int) := by omega
      have i3 : 4 * (k : Int) ≤ (cap : Int) := by omega
      have i4 : 4 * (k : Int) ≤ (n : Int) := by omega
      have i5 : (n : Int) ≤ (cap : Int) := by omega
      have e4 : ((4 : Int) * (k : Int)).toNat = 4 * k := by omega
      have ne1 : ¬ cap = 4 * k := by omega
      have ne2 : ¬ cap - 4 * k = 0 := by omega
      have le1 : 4 * k ≤ n := by omega
      have le2 : 4 * k ≤ cap := by omega
      obtain ⟨p0, q0⟩ := hb (4 * k)
      obtain ⟨p1, q1⟩ := hb (4 * k + 1)
      obtain ⟨p2, q2⟩ := hb (4 * k + 2)
      obtain ⟨p3, _⟩ := hb (4 * k + 3)
      have HR : Hid (Ch.rowsIn zs (k + 1) = Ch.rowsIn zs k ++ [Ch.readRow (zs.getD (4 * k) 0) (zs.getD (4 * k + 1) 0) (zs.getD (4 * k + 2) 0) (zs.getD (4 * k + 3) 0)]) := Ch.rowsIn_snoc zs k
      generalize zs.getD (4 * k) 0 = x0 at *
      generalize zs.getD (4 * k + 1) 0 = x1 at *
      generalize zs.getD (4 * k + 2) 0 = x2 at *
      generalize zs.getD (4 * k + 3) 0 = x3 at *
      have keepD : ∀ {p : Addr} {u : Value} {X : Array Value}, wr.cell? p = some u → ((wr.alloc (.cells X 60)).drew).cell? p = some u := fun {p u X} hp => (World.cell?_alloc_lt wr _ p (World.block_lt_of_cell? wr _ hp)).trans hp
      have hBs := hB.size
      go_wp2
      go_region_law
        ((refine step_copy4 (.tmp 12) (.tmp 15) wr.heap.size wr.heap.size wr (.int .u8 x0) (.int .u8 x1) (.int .u8 x2) (.int .u8 x3) (.int .u8 0) (.int .u8 0) (.int .u8 0) (.int .u8 0) ?_ ?_ ?_ ?_ ?_ ?_ ?_ ?_ ?_; exact rfl; exact rfl; exact rfl; (refine ⟨_, _, _, rfl, by omega, ?_⟩; intro j v hj; exact keepD (h4 j v hj)); (exact heap_new' rfl); (simp [Value.oneCell']); (repeat (first | exact Below.refl _ _ | refine Below.drew ?_ | refine Below.alloc ?_ (Nat.le_refl _) _)); exact Nat.le_refl _; intro w1 HG hB1))
      have c0 : w1.cell? ⟨wr.heap.size, 0, none⟩ = some (.int .u8 x0) := (cell_of_row _ _ _ _ _ _ HG.out)
      have c1 : w1.cell? ⟨wr.heap.size, 1, none⟩ = some (.int .u8 x1) := (cell_of_row _ _ _ _ _ _ HG.out)
      have c2 : w1.cell? ⟨wr.heap.size, 2, none⟩ = some (.int .u8 x2) := (cell_of_row _ _ _ _ _ _ HG.out)
      have c3 : w1.cell? ⟨wr.heap.size, 3, none⟩ = some (.int .u8 x3) := (cell_of_row _ _ _ _ _ _ HG.out)
      have own1 := owns_below own hB1
      have hB1' := hB.trans (hB1.mono hBs)
      go_wp2_with fail
      refine (readRow_ok x0 x1 x2 x3 _ p0 q0 p1 q1 p2 q2 p3 hgood).mono ?_
      rintro e w2 ⟨rfl, b2⟩
      have own2 := owns_below own1 b2
      have hB2' := hB1'.trans (b2.mono hB1'.size)
      have hB2s := hB2'.size
      go_wp2_with (at_builtin; refine wpList_appR (.tmp 17) (.tmp 20) w.heap.size (.slice a' k c') k (Ch.rowsIn zs k) (Ch.readRow x0 x1 x2 x3) (by omega) ?_ ?_ ?_ ?_ ?_ ?_ ?_; exact rfl; exact rfl; exact rfl; (refine ⟨_, _, 36, rfl, ?_⟩; exact heap_new' rfl); exact own2.alloc _; (simp; omega); intro g3 c3 w3 own3 b3)
      go_roundw
      case rel =>
        refine ⟨k + 1, some ⟨g3, 0, none⟩, c3, by omega, by go_num, rfl, ?_, (hB2'.alloc hB2s _).trans b3⟩
        rw [HR.out]; exact own3
      case measure => simp [intOf]; omega
    · obtain rfl : k = m := by omega
      have i2 : ¬ 4 * (k : Int) < (n : Int) := by omega
      go_wp2
      go_ret
      exact ⟨_, _, rfl, own, hB⟩
set_option maxHeartbeats 2000000 in
theorem readRows_no (a : Option Addr) (n cap m j : Nat) (zs : List Int) (w : World) (h : CellsAt w a n (bts zs)) (hb : IsB zs) (hm : n = 4 * m) (hn : n ≤ 2000) (hcap : n ≤ cap) (hg : Ch.GoodTo zs j) (hj : j < m) (hbad : 1 < zs.getD (4 * j + 3) 0) :
    Calls Try.prog 59 #[.slice a n cap] w fun e w' => e = .panicked [{ v := .iface 70 (.int .i64 1), recovered := false }] ∧ Below w.heap.size w w' := by
  have HM : Hid (n = 4 * m) := hm
  have hnm : n ≤ 4 * m := by omega
  have hmn : 4 * m ≤ n := by omega
  clear hm
  go_enter Try.func59, Try.ntmps59
  go_wp2
  go_loopw [3, 4] (fun v i wr => ∃ (k : Nat) (a' : Option Addr) (c' : Nat), k ≤ j ∧ i = .int .i64 (4 * (k : Int)) ∧ v = .slice a' k c' ∧ wr.ownsRow w.heap.size 36 3 (.slice a' k c') k (rcells (Ch.rowsIn zs k)) ∧ Below w.heap.size w wr) (fun _ i _ => n - (intOf i).toNat)
  case atStart => exact ⟨0, none, 0, Nat.zero_le _, rfl, rfl, World.ownsRow_nil _ _ _ _, Below.refl _ _⟩
  case round =>
    obtain ⟨k, a', c', hk, rfl, rfl, own, hB⟩ := hrel
    by_cases hlt : k < j
    · have hwr := h.below hB
      obtain ⟨b, off, rfl, _⟩ := hwr.at (show 4 * k < n by omega)
      have h4 := cells_four hwr (show 4 * k + 3 < n by omega)
      have hgood := hg k hlt
      have i1 : (0 : Int) ≤ 4 * (k : Int) := by omega
      have i2 : 4 * (k : Int) < (n : Int) := by omega
      have i3 : 4 * (k : Int) ≤ (cap : Int) := by omega
      have i4 : 4 * (k : Int) ≤ (n : Int) := by omega
      have i5 : (n : Int) ≤ (cap : Int) := by omega
      have e4 : ((4 : Int) * (k : Int)).toNat = 4 * k := by omega
      have ne1 : ¬ cap = 4 * k := by omega
      have ne2 : ¬ cap - 4 * k = 0 := by omega
      have le1 : 4 * k ≤ n := by omega
      have le2 : 4 * k ≤ cap := by omega
      obtain ⟨p0, q0⟩ := hb (4 * k)
      obtain ⟨p1, q1⟩ := hb (4 * k + 1)
      obtain ⟨p2, q2⟩ := hb (4 * k + 2)
      obtain ⟨p3, _⟩ := hb (4 * k + 3)
      have HR : Hid (Ch.rowsIn zs (k + 1) = Ch.rowsIn zs k ++ [Ch.readRow (zs.getD (4 * k) 0) (zs.getD (4 * k + 1) 0) (zs.getD (4 * k + 2) 0) (zs.getD (4 * k + 3) 0)]) := Ch.rowsIn_snoc zs k
      generalize zs.getD (4 * k) 0 = x0 at *
      generalize zs.getD (4 * k + 1) 0 = x1 at *
      generalize zs.getD (4 * k + 2) 0 = x2 at *
      generalize zs.getD (4 * k + 3) 0 = x3 at *
      have keepD : ∀ {p : Addr} {u : Value} {X : Array Value}, wr.cell? p = some u → ((wr.alloc (.cells X 60)).drew).cell? p = some u := fun {p u X} hp => (World.cell?_alloc_lt wr _ p (World.block_lt_of_cell? wr _ hp)).trans hp
      have hBs := hB.size
      go_wp2
      go_region_law
        ((refine step_copy4 (.tmp 12) (.tmp 15) wr.heap.size wr.heap.size wr (.int .u8 x0) (.int .u8 x1) (.int .u8 x2) (.int .u8 x3) (.int .u8 0) (.int .u8 0) (.int .u8 0) (.int .u8 0) ?_ ?_ ?_ ?_ ?_ ?_ ?_ ?_ ?_; exact rfl; exact rfl; exact rfl; (refine ⟨_, _, _, rfl, by omega, ?_⟩; intro j v hj; exact keepD (h4 j v hj)); (exact heap_new' rfl); (simp [Value.oneCell']); (repeat (first | exact Below.refl _ _ | refine Below.drew ?_ | refine Below.alloc ?_ (Nat.le_refl _) _)); exact Nat.le_refl _; intro w1 HG hB1))
      have c0 : w1.cell? ⟨wr.heap.size, 0, none⟩ = some (.int .u8 x0) := (cell_of_row _ _ _ _ _ _ HG.out)
      have c1 : w1.cell? ⟨wr.heap.size, 1, none⟩ = some (.int .u8 x1) := (cell_of_row _ _ _ _ _ _ HG.out)
      have c2 : w1.cell? ⟨wr.heap.size, 2, none⟩ = some (.int .u8 x2) := (cell_of_row _ _ _ _ _ _ HG.out)
      have c3 : w1.cell? ⟨wr.heap.size, 3, none⟩ = some (.int .u8 x3) := (cell_of_row _ _ _ _ _ _ HG.out)
      have own1 := owns_below own hB1
      have hB1' := hB.trans (hB1.mono hBs)
      go_wp2_with fail
      refine (readRow_ok x0 x1 x2 x3 _ p0 q0 p1 q1 p2 q2 p3 hgood).mono ?_
      rintro e w2 ⟨rfl, b2⟩
      have own2 := owns_below own1 b2
      have hB2' := hB1'.trans (b2.mono hB1'.size)
      have hB2s := hB2'.size
      go_wp2_with (at_builtin; refine wpList_appR (.tmp 17) (.tmp 20) w.heap.size (.slice a' k c') k (Ch.rowsIn zs k) (Ch.readRow x0 x1 x2 x3) (by omega) ?_ ?_ ?_ ?_ ?_ ?_ ?_; exact rfl; exact rfl; exact rfl; (refine ⟨_, _, 36, rfl, ?_⟩; exact heap_new' rfl); exact own2.alloc _; (simp; omega); intro g3 c3 w3 own3 b3)
      go_roundw
      case rel =>
        refine ⟨k + 1, some ⟨g3, 0, none⟩, c3, by omega, by go_num, rfl, ?_, (hB2'.alloc hB2s _).trans b3⟩
        rw [HR.out]; exact own3
      case measure => simp [intOf]; omega
    · obtain rfl : k = j := by omega
      have hwr := h.below hB
      obtain ⟨b, off, rfl, _⟩ := hwr.at (show 4 * k < n by omega)
      have h4 := cells_four hwr (show 4 * k + 3 < n by omega)
      have i1 : (0 : Int) ≤ 4 * (k : Int) := by omega
      have i2 : 4 * (k : Int) < (n : Int) := by omega
      have i3 : 4 * (k : Int) ≤ (cap : Int) := by omega
      have i4 : 4 * (k : Int) ≤ (n : Int) := by omega
      have i5 : (n : Int) ≤ (cap : Int) := by omega
      have e4 : ((4 : Int) * (k : Int)).toNat = 4 * k := by omega
      have ne1 : ¬ cap = 4 * k := by omega
      have ne2 : ¬ cap - 4 * k = 0 := by omega
      have le1 : 4 * k ≤ n := by omega
      have le2 : 4 * k ≤ cap := by omega
      generalize zs.getD (4 * k) 0 = x0 at *
      generalize zs.getD (4 * k + 1) 0 = x1 at *
      generalize zs.getD (4 * k + 2) 0 = x2 at *
      generalize zs.getD (4 * k + 3) 0 = x3 at *
      have keepD : ∀ {p : Addr} {u : Value} {X : Array Value}, wr.cell? p = some u → ((wr.alloc (.cells X 60)).drew).cell? p = some u := fun {p u X} hp => (World.cell?_alloc_lt wr _ p (World.block_lt_of_cell? wr _ hp)).trans hp
      have hBs := hB.size
      go_wp2
      go_region_law
        ((refine step_copy4 (.tmp 12) (.tmp 15) wr.heap.size wr.heap.size wr (.int .u8 x0) (.int .u8 x1) (.int .u8 x2) (.int .u8 x3) (.int .u8 0) (.int .u8 0) (.int .u8 0) (.int .u8 0) ?_ ?_ ?_ ?_ ?_ ?_ ?_ ?_ ?_; exact rfl; exact rfl; exact rfl; (refine ⟨_, _, _, rfl, by omega, ?_⟩; intro j v hj; exact keepD (h4 j v hj)); (exact heap_new' rfl); (simp [Value.oneCell']); (repeat (first | exact Below.refl _ _ | refine Below.drew ?_ | refine Below.alloc ?_ (Nat.le_refl _) _)); exact Nat.le_refl _; intro w1 HG hB1))
      have c0 : w1.cell? ⟨wr.heap.size, 0, none⟩ = some (.int .u8 x0) := (cell_of_row _ _ _ _ _ _ HG.out)
      have c1 : w1.cell? ⟨wr.heap.size, 1, none⟩ = some (.int .u8 x1) := (cell_of_row _ _ _ _ _ _ HG.out)
      have c2 : w1.cell? ⟨wr.heap.size, 2, none⟩ = some (.int .u8 x2) := (cell_of_row _ _ _ _ _ _ HG.out)
      have c3 : w1.cell? ⟨wr.heap.size, 3, none⟩ = some (.int .u8 x3) := (cell_of_row _ _ _ _ _ _ HG.out)
      have hB1' := hB.trans (hB1.mono hBs)
      go_wp2_with fail
      refine (readRow_no x0 x1 x2 x3 _ hbad).mono ?_
      rintro e w2 ⟨rfl, b2⟩
      have hB2' := hB1'.trans (b2.mono hB1'.size)
      go_wp2
      exact ⟨rfl, rfl, hB2'⟩
end Go.Proofs.Ythkbaabfhbjbgaa
