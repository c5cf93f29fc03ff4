/- Numbers as words and words joined, of the program: strconv.FormatInt, strings.Join laid; the words of an operation's fields. -/
import Derived.Test.YtalhmogaogaekaaDoorOtF
import Derived.Test.YtalhmogaogaekaaDoorOtE
import Derived.Shelf.Lay
import Derived.Shelf.Strconv.Itoa4
import Derived.Shelf.Strings.OnBuilder
import Derived.Ground.NamesProg
import Derived.Lib.AppendIntMem
namespace Go.Proofs.YtalhmogaogaekaaDoor
open Go.RowKit Go.Shelf

shelf_lay LaysM.n173 Nm 173 at Tryd as Tryd.lays173
shelf_lay Lays.n156 Nm 156 at Tryd as Tryd.lays156
theorem Tryd.extra156 : Builder.Extra Tryd.prog Tryd.lays156_ren where
  sizeBuilder := by kernel_rfl
  liesBuilder := by kernel_rfl
  t5 := Tryd.underlying5
  a5 := Tryd.isAgg5
  z5 := Tryd.sizeOf5
  v5 := Tryd.zeroValue5
  infoByte := by kernel_rfl
  cellsByte := by kernel_rfl
  sizeByte := by kernel_rfl
  neB5 := by decide
theorem ren173_f : Tryd.lays173_ren.f 173 = 37 := by decide
theorem ren156_f : Tryd.lays156_ren.f 156 = 36 := by decide

/-- The table of powers lies where the program's text lays it. -/
def Tab (W : World) : Prop := Lib.TabIs Tryd.prog W "internal/strconv.uint64pow10" .u64 Lib.pow10Tab
theorem Tab.below {W V : World} (h : Tab W) (hb : Below W.heap.size W V) : Tab V := Lib.tabBelow_of_tabIs h V hb

theorem format_any (n : Nat) (w : World) (hn : n ≤ 9999) (ht : Tab w) :
    Calls Tryd.prog 37 #[.int .i64 n, .int .i64 10] w fun e w' => e = .returned (.string (Ch.dec n)) ∧ Below w.heap.size w w' := by
  have C := Any.strconv_FormatInt_10 Tryd.lays173 (n : Int) (by omega) (by omega) w ht
  rw [ren173_f, Lib.itoa_nonneg] at C
  refine C.mono ?_
  rintro e w' ⟨rfl, k, os, rfl⟩
  exact ⟨rfl, Lib.below_grow _ w (Nat.le_refl _) k os⟩

theorem number_any (n : Nat) (w : World) (hn : n ≤ 9999) (ht : Tab w) :
    Calls Tryd.prog 22 #[.int .i64 n] w fun e w' => e = .returned (.string (Ch.dec n)) ∧ Below w.heap.size w w' := by
  have C := fun W h => format_any n W hn h
  generalize Ch.dec n = D at *
  go_enter Tryd.func22, Tryd.ntmps22
  go_wp2_with fail
  refine (C _ ht).mono ?_
  rintro e w1 ⟨rfl, b1⟩
  go_wp2
  go_ret
  exact ⟨rfl, b1⟩

/-- Which cell of an operation a field is, and what it holds. -/
def Ch.at3 (f : Nat) (x y z : Nat) : Nat := if f = 0 then x else if f = 1 then y else z

set_option maxHeartbeats 800000 in
theorem of_any (f g : Nat) (w : World) (hf : f ≤ 2) :
    Calls Tryd.prog 23 #[.int .i64 f, .pointer (some ⟨g, 0, none⟩)] w fun e w' => e = .returned (.pointer (some ⟨g, f + 1, none⟩)) ∧ w' = w := by
  have : f = 0 ∨ f = 1 ∨ f = 2 := by omega
  rcases this with rfl | rfl | rfl
  all_goals
    go_enter Tryd.func23, Tryd.ntmps23
    go_wp2
    go_ret
    exact ⟨rfl, rfl⟩

/-- What the closure answers for a field: its number as a word. -/
theorem word_any (f g x y z : Nat) (k : Value) (w : World) (hf : f ≤ 2) (h : w.heap[g]? = some (.cells #[k, .int .i64 x, .int .i64 y, .int .i64 z] 27 (0, 0))) (hx : x ≤ 9999) (hy : y ≤ 9999) (hz : z ≤ 9999) (ht : Tab w) :
    Calls Tryd.prog 21 #[.int .i64 f, .pointer (some ⟨g, 0, none⟩)] w fun e w' => e = .returned (.string (Ch.dec (Ch.at3 f x y z))) ∧ Below w.heap.size w w' := by
  obtain ⟨x0, x1, x2, x3⟩ := row4 h
  have hc : w.cell? ⟨g, f + 1, none⟩ = some (.int .i64 ((Ch.at3 f x y z : Nat) : Int)) := by
    have : f = 0 ∨ f = 1 ∨ f = 2 := by omega
    rcases this with rfl | rfl | rfl
    · exact x1
    · exact x2
    · exact x3
  have hb : Ch.at3 f x y z ≤ 9999 := by
    unfold Ch.at3
    split
    · exact hx
    · split <;> omega
  generalize Ch.at3 f x y z = v at *
  have NW := fun W h => number_any v W hb h
  generalize Ch.dec v = D at *
  have hlt := lt_of_cell hc
  clear x0 x1 x2 x3 h
  go_enter Tryd.func21, Tryd.ntmps21
  go_wp2_with fail
  refine (of_any f g w hf).mono ?_
  rintro e w1 ⟨rfl, rfl⟩
  go_wp2_with fail
  refine (NW _ ht).mono ?_
  rintro e w2 ⟨rfl, b2⟩
  go_wp2
  go_ret
  exact ⟨rfl, b2⟩
end Go.Proofs.YtalhmogaogaekaaDoor
