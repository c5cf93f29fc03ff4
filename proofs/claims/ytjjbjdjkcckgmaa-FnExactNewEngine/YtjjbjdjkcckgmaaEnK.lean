
/- Engines of rows and leaves alone: marks. -/
import Derived.Test.YtjjbjdjkcckgmaaEnE
namespace Go.Proofs.Ytjjbjdjkcckgmaa
open Go.RowKit

theorem OwnV.grownN {w w' : World} {B n : Nat} {v : Value} {vs : List Value} {ls : List (List Ch.Row)} {row : Option Nat} (h : OwnV w B v n vs ls) (hg : w.grownBy w' row) (h1 : ∀ g, v.ownBlock = some g → row ≠ some g) (h2 : ∀ (i : Nat) (x : Value) (g : Nat), vs[i]? = some x → x.ownBlock = some g → row ≠ some g) : OwnV w' B v n vs ls := by
  obtain ⟨hl, ho, hi, hd, hd'⟩ := h
  refine ⟨hl, owns_grown ho hg h1, fun i hlt => ?_, hd, hd'⟩
  obtain ⟨x, a, b⟩ := hi i hlt
  exact ⟨x, a, owns_grown b hg (fun g hg => h2 i x g a hg)⟩
theorem within_row {lo hi : Nat} {a b : World} {row : Option Nat} (h : a.grownBy b row) (hr : ∀ g, row = some g → lo ≤ g ∧ g < hi) : Within lo hi a b :=
  ⟨h.os, h.tape, h.output, h.size, fun k hk hne => h.block k hk (fun e => by have := hr k e.symm; omega)⟩

set_option linter.unusedSimpArgs false in
set_option maxHeartbeats 2000000 in
theorem markEngine_any (s : Int) (hs0 : 0 < s) (hs1 : s ≤ 1000000) (lo H1 hi : Nat) (B B' : Nat) (a l : Option Addr) (n m ca cl : Nat) (rs : List Ch.Row) (vs : List Value) (ls : List (List Ch.Row)) (w : World)
    (hb : w.ownsRow B 49 3 (.slice a n ca) n (rcells rs)) (hV : OwnV w B' (.slice l m cl) m vs ls) (hn : n ≤ 1048576) (hs : Ch.lvSize ls ≤ 1048576)
    (hbase : ∀ g, (Value.slice a n ca).ownBlock = some g → H1 ≤ g ∧ g < hi) (hlist : ∀ g, (Value.slice l m cl).ownBlock = some g → lo ≤ g ∧ g < H1) (hleaf : ∀ (i : Nat) (x : Value) (g : Nat), vs[i]? = some x → x.ownBlock = some g → lo ≤ g ∧ g < H1) (hlo : lo ≤ H1) (hH : H1 ≤ hi) (hhi : hi ≤ w.heap.size) :
    Calls Try.prog 24 #[.agg #[.slice a n ca, .slice l m cl, .slice none 0 0, .slice none 0 0, .slice none 0 0, .slice none 0 0, .slice none 0 0, .bool false, .slice none 0 0, .slice none 0 0], .int .i64 s] w fun e w' => e = .returned (.int .i64 (s + 3 * n + 3 * (Ch.before ls m : Int))) ∧ w'.ownsRow B 49 3 (.slice a n ca) n (rcells (rmarks s n)) ∧ OwnV w' B' (.slice l m cl) m vs (lvMarksS (s + 3 * n) ls) ∧ Within lo hi w w' := by
  have kB : Below w.heap.size w (w.alloc (.cells #[.slice a n ca, .slice l m cl, .slice none 0 0, .slice none 0 0, .slice none 0 0, .slice none 0 0, .slice none 0 0, .bool false, .slice none 0 0, .slice none 0 0] 35)) := (Below.refl _ _).alloc (Nat.le_refl _) _
  have wi0 : Within lo hi w (w.alloc (.cells #[.slice a n ca, .slice l m cl, .slice none 0 0, .slice none 0 0, .slice none 0 0, .slice none 0 0, .slice none 0 0, .bool false, .slice none 0 0, .slice none 0 0] 35)) := within_below kB
  have x0 : (w.alloc (.cells #[.slice a n ca, .slice l m cl, .slice none 0 0, .slice none 0 0, .slice none 0 0, .slice none 0 0, .slice none 0 0, .bool false, .slice none 0 0, .slice none 0 0] 35)).cell? ⟨w.heap.size, 0, none⟩ = some ((.slice a n ca)) := by go_simp
  have x1 : (w.alloc (.cells #[.slice a n ca, .slice l m cl, .slice none 0 0, .slice none 0 0, .slice none 0 0, .slice none 0 0, .slice none 0 0, .bool false, .slice none 0 0, .slice none 0 0] 35)).cell? ⟨w.heap.size, 1, none⟩ = some ((.slice l m cl)) := by go_simp
  have x2 : (w.alloc (.cells #[.slice a n ca, .slice l m cl, .slice none 0 0, .slice none 0 0, .slice none 0 0, .slice none 0 0, .slice none 0 0, .bool false, .slice none 0 0, .slice none 0 0] 35)).cell? ⟨w.heap.size, 2, none⟩ = some ((.slice none 0 0)) := by go_simp
  have x3 : (w.alloc (.cells #[.slice a n ca, .slice l m cl, .slice none 0 0, .slice none 0 0, .slice none 0 0, .slice none 0 0, .slice none 0 0, .bool false, .slice none 0 0, .slice none 0 0] 35)).cell? ⟨w.heap.size, 3, none⟩ = some ((.slice none 0 0)) := by go_simp
  have x4 : (w.alloc (.cells #[.slice a n ca, .slice l m cl, .slice none 0 0, .slice none 0 0, .slice none 0 0, .slice none 0 0, .slice none 0 0, .bool false, .slice none 0 0, .slice none 0 0] 35)).cell? ⟨w.heap.size, 4, none⟩ = some ((.slice none 0 0)) := by go_simp
  have x5 : (w.alloc (.cells #[.slice a n ca, .slice l m cl, .slice none 0 0, .slice none 0 0, .slice none 0 0, .slice none 0 0, .slice none 0 0, .bool false, .slice none 0 0, .slice none 0 0] 35)).cell? ⟨w.heap.size, 5, none⟩ = some ((.slice none 0 0)) := by go_simp
  have x6 : (w.alloc (.cells #[.slice a n ca, .slice l m cl, .slice none 0 0, .slice none 0 0, .slice none 0 0, .slice none 0 0, .slice none 0 0, .bool false, .slice none 0 0, .slice none 0 0] 35)).cell? ⟨w.heap.size, 6, none⟩ = some ((.slice none 0 0)) := by go_simp
  have x7 : (w.alloc (.cells #[.slice a n ca, .slice l m cl, .slice none 0 0, .slice none 0 0, .slice none 0 0, .slice none 0 0, .slice none 0 0, .bool false, .slice none 0 0, .slice none 0 0] 35)).cell? ⟨w.heap.size, 7, none⟩ = some ((.bool false)) := by go_simp
  have x8 : (w.alloc (.cells #[.slice a n ca, .slice l m cl, .slice none 0 0, .slice none 0 0, .slice none 0 0, .slice none 0 0, .slice none 0 0, .bool false, .slice none 0 0, .slice none 0 0] 35)).cell? ⟨w.heap.size, 8, none⟩ = some ((.slice none 0 0)) := by go_simp
  have x9 : (w.alloc (.cells #[.slice a n ca, .slice l m cl, .slice none 0 0, .slice none 0 0, .slice none 0 0, .slice none 0 0, .slice none 0 0, .bool false, .slice none 0 0, .slice none 0 0] 35)).cell? ⟨w.heap.size, 9, none⟩ = some ((.slice none 0 0)) := by go_simp
  go_enter Try.func24, Try.ntmps24
  go_wp2_with fail
  refine (markRowS_own s B n a ca rs _ hs0 (by omega) (owns_below hb kB) (by omega)).mono ?_
  rintro e w1 ⟨rfl, o1, g1⟩
  have hne : (Value.slice a n ca).ownBlock ≠ some w.heap.size := fun e => by have := hbase _ e; omega
  replace x1 := grown_cell g1 x1 hne
  replace x2 := grown_cell g1 x2 hne
  replace x3 := grown_cell g1 x3 hne
  replace x4 := grown_cell g1 x4 hne
  replace x5 := grown_cell g1 x5 hne
  replace x6 := grown_cell g1 x6 hne
  replace x7 := grown_cell g1 x7 hne
  replace x8 := grown_cell g1 x8 hne
  replace x9 := grown_cell g1 x9 hne
  have V1 := (hV.below kB).grownN g1 (fun g hg e => by have h1 := hlist g hg; have h2 := hbase g e; omega) (fun i x g hx hg e => by have h1 := hleaf i x g hx hg; have h2 := hbase g e; omega)
  have wi1 := wi0.trans (within_row (lo := lo) (hi := hi) g1 (fun g hg => by have := hbase g hg; omega))
  clear x0 hne g1 wi0 kB hb hV
  go_wp2_with fail
  refine (markLeafS_S (s + 3 * n) (by omega) (by omega) B' lo H1 l m cl vs ls _ V1 hleaf hs).mono ?_
  rintro e w2 ⟨rfl, V2, wi2⟩
  have o2 := wi2.owns o1 (fun g hg => by have := hbase g hg; omega)
  replace x2 := within_cell wi2 x2 (by omega)
  replace x3 := within_cell wi2 x3 (by omega)
  replace x4 := within_cell wi2 x4 (by omega)
  replace x5 := within_cell wi2 x5 (by omega)
  replace x6 := within_cell wi2 x6 (by omega)
  replace x7 := within_cell wi2 x7 (by omega)
  replace x8 := within_cell wi2 x8 (by omega)
  replace x9 := within_cell wi2 x9 (by omega)
  have wi2' := wi1.trans (show Within lo hi w1 w2 from ⟨wi2.os, wi2.tape, wi2.output, wi2.size, fun k hk hne => wi2.block k hk (by omega)⟩)
  clear x1 wi1 wi2 o1 V1
  generalize hMM : s + 3 * (n : Int) + 3 * (Ch.before ls m : Int) = M at *
  have HM := hid hMM
  clear hMM
  go_wp2_with fail
  refine (markLockS_nilE _ _).mono ?_
  rintro e w' ⟨rfl, hw⟩
  obtain rfl := hw.symm
  clear hw
  go_wp2_with fail
  refine (markTxnS_nilE _ _).mono ?_
  rintro e w' ⟨rfl, hw⟩
  obtain rfl := hw.symm
  clear hw
  go_wp2_with fail
  refine (markWal_nil _ _).mono ?_
  rintro e w3 ⟨rfl, b3⟩
  have o3 := owns_below o2 b3
  have V3 := V2.below b3
  have wi3 := wi2'.trans (within_below b3)
  replace x6 := keep_cell b3 x6
  replace x7 := keep_cell b3 x7
  replace x8 := keep_cell b3 x8
  replace x9 := keep_cell b3 x9
  clear x2 x3 x4 x5 b3 o2 V2 wi2'
  go_wp2_with fail
  refine (markPairS_nilE _ _).mono ?_
  rintro e w' ⟨rfl, hw⟩
  obtain rfl := hw.symm
  clear hw
  go_wp2_with fail
  refine (markInt64S_nilE _ _).mono ?_
  rintro e w' ⟨rfl, hw⟩
  obtain rfl := hw.symm
  clear hw
  go_wp2_with fail
  refine (markActS_nilE _ _).mono ?_
  rintro e w' ⟨rfl, hw⟩
  obtain rfl := hw.symm
  clear hw
  go_wp2
  go_ret
  exact ⟨ret_int HM.out.symm, o3, V3, wi3⟩

set_option linter.unusedSimpArgs false in
set_option maxHeartbeats 2000000 in
theorem markEngineResult_any (c : Int) (lo H1 hi : Nat) (B B' : Nat) (a l : Option Addr) (n m ca cl : Nat) (rs : List Ch.Row) (vs : List Value) (ls : List (List Ch.Row)) (w : World)
    (hb : w.ownsRow B 49 3 (.slice a n ca) n (rcells rs)) (hV : OwnV w B' (.slice l m cl) m vs ls) (hn : n ≤ 1048576) (hs : Ch.lvSize ls ≤ 1048576)
    (hbase : ∀ g, (Value.slice a n ca).ownBlock = some g → H1 ≤ g ∧ g < hi) (hlist : ∀ g, (Value.slice l m cl).ownBlock = some g → lo ≤ g ∧ g < H1) (hleaf : ∀ (i : Nat) (x : Value) (g : Nat), vs[i]? = some x → x.ownBlock = some g → lo ≤ g ∧ g < H1) (hlo : lo ≤ H1) (hH : H1 ≤ hi) (hhi : hi ≤ w.heap.size) :
    Calls Try.prog 11 #[.agg #[.int .i64 c, .bool false, .int .i64 0, .slice none 0 0, .slice none 0 0, .slice a n ca, .slice l m cl, .slice none 0 0, .slice none 0 0, .slice none 0 0, .slice none 0 0, .slice none 0 0, .bool false, .slice none 0 0, .slice none 0 0], .int .i64 1] w fun e w' => e = .returned (.int .i64 (1 + 3 * n + 3 * (Ch.before ls m : Int))) ∧ w'.ownsRow B 49 3 (.slice a n ca) n (rcells (rmarks 1 n)) ∧ OwnV w' B' (.slice l m cl) m vs (lvMarksS (1 + 3 * n) ls) ∧ Within lo hi w w' := by
  have kB : Below w.heap.size w (w.alloc (.cells #[.int .i64 c, .bool false, .int .i64 0, .slice none 0 0, .slice none 0 0, .slice a n ca, .slice l m cl, .slice none 0 0, .slice none 0 0, .slice none 0 0, .slice none 0 0, .slice none 0 0, .bool false, .slice none 0 0, .slice none 0 0] 37)) := (Below.refl _ _).alloc (Nat.le_refl _) _
  have IE := markEngine_any 1 (by decide) (by decide) lo H1 hi B B' a l n m ca cl rs vs ls (w.alloc (.cells #[.int .i64 c, .bool false, .int .i64 0, .slice none 0 0, .slice none 0 0, .slice a n ca, .slice l m cl, .slice none 0 0, .slice none 0 0, .slice none 0 0, .slice none 0 0, .slice none 0 0, .bool false, .slice none 0 0, .slice none 0 0] 37)) (owns_below hb kB) (hV.below kB) hn hs hbase hlist hleaf hlo hH (by simp; omega)
  go_enter Try.func11, Try.ntmps11
  go_wp2_with (go_at_call 23; refine (markInt64S_nilE _ _).mono ?_; rintro e w' ⟨rfl, rfl⟩)
  refine IE.mono ?_
  rintro e w1 ⟨rfl, o1, V1, wi1⟩
  go_wp2
  go_ret
  exact ⟨rfl, o1, V1, (within_below kB).trans wi1⟩

set_option linter.unusedSimpArgs false in
set_option maxHeartbeats 2000000 in
theorem heldEngine_any (s : Int) (hs0 : 0 < s) (hs1 : s ≤ 1000000) (a l : Option Addr) (n m ca cl : Nat) (ls : List (List Ch.Row)) (w : World) (h : CellsAt w a (n * 3) (rcells (rmarks s n))) (k : LvAt w l m (lvMarksS (s + 3 * n) ls)) (hn : n ≤ 1048576) (hs : Ch.lvSize ls ≤ 1048576) :
    Calls Try.prog 26 #[.agg #[.slice a n ca, .slice l m cl, .slice none 0 0, .slice none 0 0, .slice none 0 0, .slice none 0 0, .slice none 0 0, .bool false, .slice none 0 0, .slice none 0 0], .int .i64 s] w fun e w' => e = .returned (.int .i64 (s + 3 * n + 3 * (Ch.before ls m : Int))) ∧ Below w.heap.size w w' := by
  have kB : Below w.heap.size w (w.alloc (.cells #[.slice a n ca, .slice l m cl, .slice none 0 0, .slice none 0 0, .slice none 0 0, .slice none 0 0, .slice none 0 0, .bool false, .slice none 0 0, .slice none 0 0] 35)) := (Below.refl _ _).alloc (Nat.le_refl _) _
  have x0 : (w.alloc (.cells #[.slice a n ca, .slice l m cl, .slice none 0 0, .slice none 0 0, .slice none 0 0, .slice none 0 0, .slice none 0 0, .bool false, .slice none 0 0, .slice none 0 0] 35)).cell? ⟨w.heap.size, 0, none⟩ = some ((.slice a n ca)) := by go_simp
  have x1 : (w.alloc (.cells #[.slice a n ca, .slice l m cl, .slice none 0 0, .slice none 0 0, .slice none 0 0, .slice none 0 0, .slice none 0 0, .bool false, .slice none 0 0, .slice none 0 0] 35)).cell? ⟨w.heap.size, 1, none⟩ = some ((.slice l m cl)) := by go_simp
  have x2 : (w.alloc (.cells #[.slice a n ca, .slice l m cl, .slice none 0 0, .slice none 0 0, .slice none 0 0, .slice none 0 0, .slice none 0 0, .bool false, .slice none 0 0, .slice none 0 0] 35)).cell? ⟨w.heap.size, 2, none⟩ = some ((.slice none 0 0)) := by go_simp
  have x3 : (w.alloc (.cells #[.slice a n ca, .slice l m cl, .slice none 0 0, .slice none 0 0, .slice none 0 0, .slice none 0 0, .slice none 0 0, .bool false, .slice none 0 0, .slice none 0 0] 35)).cell? ⟨w.heap.size, 3, none⟩ = some ((.slice none 0 0)) := by go_simp
  have x4 : (w.alloc (.cells #[.slice a n ca, .slice l m cl, .slice none 0 0, .slice none 0 0, .slice none 0 0, .slice none 0 0, .slice none 0 0, .bool false, .slice none 0 0, .slice none 0 0] 35)).cell? ⟨w.heap.size, 4, none⟩ = some ((.slice none 0 0)) := by go_simp
  have x5 : (w.alloc (.cells #[.slice a n ca, .slice l m cl, .slice none 0 0, .slice none 0 0, .slice none 0 0, .slice none 0 0, .slice none 0 0, .bool false, .slice none 0 0, .slice none 0 0] 35)).cell? ⟨w.heap.size, 5, none⟩ = some ((.slice none 0 0)) := by go_simp
  have x6 : (w.alloc (.cells #[.slice a n ca, .slice l m cl, .slice none 0 0, .slice none 0 0, .slice none 0 0, .slice none 0 0, .slice none 0 0, .bool false, .slice none 0 0, .slice none 0 0] 35)).cell? ⟨w.heap.size, 6, none⟩ = some ((.slice none 0 0)) := by go_simp
  have x7 : (w.alloc (.cells #[.slice a n ca, .slice l m cl, .slice none 0 0, .slice none 0 0, .slice none 0 0, .slice none 0 0, .slice none 0 0, .bool false, .slice none 0 0, .slice none 0 0] 35)).cell? ⟨w.heap.size, 7, none⟩ = some ((.bool false)) := by go_simp
  have x8 : (w.alloc (.cells #[.slice a n ca, .slice l m cl, .slice none 0 0, .slice none 0 0, .slice none 0 0, .slice none 0 0, .slice none 0 0, .bool false, .slice none 0 0, .slice none 0 0] 35)).cell? ⟨w.heap.size, 8, none⟩ = some ((.slice none 0 0)) := by go_simp
  have x9 : (w.alloc (.cells #[.slice a n ca, .slice l m cl, .slice none 0 0, .slice none 0 0, .slice none 0 0, .slice none 0 0, .slice none 0 0, .bool false, .slice none 0 0, .slice none 0 0] 35)).cell? ⟨w.heap.size, 9, none⟩ = some ((.slice none 0 0)) := by go_simp
  have n1 : ¬ (s + 3 * (n : Int)) < 0 := by omega
  go_enter Try.func26, Try.ntmps26
  go_wp2_with fail
  refine (heldRowS_any s a n ca _ hs0 (by omega) (h.below kB) (by omega)).mono ?_
  rintro e w' ⟨rfl, hw⟩
  obtain rfl := hw.symm
  clear hw
  go_wp2_with fail
  refine (heldLeafS_S (s + 3 * n) (by omega) (by omega) l m cl ls _ (k.below kB) hs).mono ?_
  rintro e w' ⟨rfl, hw⟩
  obtain rfl := hw.symm
  clear hw n1
  have n2 : ¬ (s + 3 * (n : Int) + 3 * (Ch.before ls m : Int)) < 0 := by omega
  have n3 : 0 < s + 3 * (n : Int) + 3 * (Ch.before ls m : Int) := by omega
  generalize hMM : s + 3 * (n : Int) + 3 * (Ch.before ls m : Int) = M at *
  have HM := hid hMM
  clear hMM
  go_wp2_with fail
  refine (heldLockS_nilE _ _).mono ?_
  rintro e w' ⟨rfl, hw⟩
  obtain rfl := hw.symm
  clear hw
  go_wp2_with fail
  refine (heldTxnS_nilE _ _).mono ?_
  rintro e w' ⟨rfl, hw⟩
  obtain rfl := hw.symm
  clear hw
  go_wp2_with fail
  refine (heldWal_nil _ n3 _).mono ?_
  rintro e w3 ⟨rfl, b3⟩
  have b3' := kB.trans (b3.mono (by simp))
  replace x6 := keep_cell b3 x6
  replace x7 := keep_cell b3 x7
  replace x8 := keep_cell b3 x8
  replace x9 := keep_cell b3 x9
  clear x0 x1 x2 x3 x4 x5 b3
  go_wp2_with fail
  refine (heldPairS_nilE _ _).mono ?_
  rintro e w' ⟨rfl, hw⟩
  obtain rfl := hw.symm
  clear hw
  go_wp2_with fail
  refine (heldInt64S_nilE _ _).mono ?_
  rintro e w' ⟨rfl, hw⟩
  obtain rfl := hw.symm
  clear hw
  go_wp2_with fail
  refine (heldActS_nilE _ _).mono ?_
  rintro e w' ⟨rfl, hw⟩
  obtain rfl := hw.symm
  clear hw
  go_wp2
  go_ret
  exact ⟨ret_int HM.out.symm, b3'⟩

set_option linter.unusedSimpArgs false in
set_option maxHeartbeats 2000000 in
theorem heldEngineResult_any (c : Int) (a l : Option Addr) (n m ca cl : Nat) (ls : List (List Ch.Row)) (w : World) (h : CellsAt w a (n * 3) (rcells (rmarks 1 n))) (k : LvAt w l m (lvMarksS (1 + 3 * n) ls)) (hn : n ≤ 1048576) (hs : Ch.lvSize ls ≤ 1048576) :
    Calls Try.prog 12 #[.agg #[.int .i64 c, .bool false, .int .i64 0, .slice none 0 0, .slice none 0 0, .slice a n ca, .slice l m cl, .slice none 0 0, .slice none 0 0, .slice none 0 0, .slice none 0 0, .slice none 0 0, .bool false, .slice none 0 0, .slice none 0 0], .int .i64 1] w fun e w' => e = .returned (.int .i64 (1 + 3 * n + 3 * (Ch.before ls m : Int))) ∧ Below w.heap.size w w' := by
  have kB : Below w.heap.size w (w.alloc (.cells #[.int .i64 c, .bool false, .int .i64 0, .slice none 0 0, .slice none 0 0, .slice a n ca, .slice l m cl, .slice none 0 0, .slice none 0 0, .slice none 0 0, .slice none 0 0, .slice none 0 0, .bool false, .slice none 0 0, .slice none 0 0] 37)) := (Below.refl _ _).alloc (Nat.le_refl _) _
  have IE := heldEngine_any 1 (by decide) (by decide) a l n m ca cl ls (w.alloc (.cells #[.int .i64 c, .bool false, .int .i64 0, .slice none 0 0, .slice none 0 0, .slice a n ca, .slice l m cl, .slice none 0 0, .slice none 0 0, .slice none 0 0, .slice none 0 0, .slice none 0 0, .bool false, .slice none 0 0, .slice none 0 0] 37)) (h.below kB) (k.below kB) hn hs
  have n2 : ¬ ((1 : Int) + 3 * (n : Int) + 3 * (Ch.before ls m : Int)) < 0 := by omega
  go_enter Try.func12, Try.ntmps12
  go_wp2_with (go_at_call 25; refine (heldInt64S_nilE _ _).mono ?_; rintro e w' ⟨rfl, rfl⟩)
  refine IE.mono ?_
  rintro e w1 ⟨rfl, b1⟩
  go_wp2
  go_ret
  exact ⟨rfl, kB.trans (b1.mono (by simp))⟩
end Go.Proofs.Ytjjbjdjkcckgmaa
