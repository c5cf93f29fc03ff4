
/- The law FnLeaves. -/
import Derived.Test.YtofhkncdjjlllaaDrawY
import Derived.Test.YtofhkncdjjlllaaLvsN
import Derived.Test.YtofhkncdjjlllaaPutH
import Derived.Test.YtofhkncdjjlllaaLvL
import Derived.Deep.DeepCutAuto
namespace Go.Proofs.Ytofhkncdjjlllaa
open Go.RowKit

theorem eqlRow (k v : Int) (g : Bool) (k' v' : Int) (g' : Bool) (w : World) :
    (binOp .eql 42 (.agg #[.int .i64 k, .int .i64 v, .bool g]) (.agg #[.int .i64 k', .int .i64 v', .bool g'])).run Try.prog w = .ok (.bool (k == k' && (v == v' && g == g'))) w := by
  rw [run_eql_struct, equalRow]
  rfl
theorem fieldLv (c : Int) (a : Option Addr) (m k : Nat) (W : World) : (Instr.field 46 (.agg #[.int .i64 c, .slice a m k]) 0).run Try.prog W = .ok (.int .i64 c) W := by kernel_rfl
theorem fieldRw (c : Int) (a : Option Addr) (m k : Nat) (W : World) : (Instr.field 50 (.agg #[.int .i64 c, .slice a m k]) 0).run Try.prog W = .ok (.int .i64 c) W ∧ (Instr.field 50 (.agg #[.int .i64 c, .slice a m k]) 1).run Try.prog W = .ok (.slice a m k) W := ⟨by kernel_rfl, by kernel_rfl⟩
theorem implPut_is (a : Option Addr) (n cap : Nat) (ls : List (List Ch.Row)) (rk rv : Int) (rg : Bool) (w : World) (h : LvAt w a n ls) (hs : Ch.lvSize ls ≤ 1048576) {c : Int} {ml : List (List Ch.Row)} (hR : Ch.putR ls ⟨rk, rv, rg⟩ = (c, ml)) :
    Calls Try.prog 20 #[.slice a n cap, .agg #[.int .i64 rk, .int .i64 rv, .bool rg]] w fun e w' => ∃ a' m c', e = .returned (.agg #[.int .i64 c, .slice a' m c']) ∧ OwnLv w' w.heap.size (.slice a' m c') m ml ∧ Below w.heap.size w w' := by
  have := implPutRow_any a n cap ls rk rv rg w h hs
  rw [hR] at this
  exact this
theorem specPut_is (a : Option Addr) (n cap : Nat) (ls : List (List Ch.Row)) (rk rv : Int) (rg : Bool) (w : World) (h : LvAt w a n ls) (hs : Ch.lvSize ls ≤ 1048576) {c : Int} {ml : List (List Ch.Row)} (hR : Ch.putR ls ⟨rk, rv, rg⟩ = (c, ml)) :
    Calls Try.prog 21 #[.slice a n cap, .agg #[.int .i64 rk, .int .i64 rv, .bool rg]] w fun e w' => ∃ a' m c', e = .returned (.agg #[.int .i64 c, .slice a' m c']) ∧ OwnLv w' w.heap.size (.slice a' m c') m ml ∧ Below w.heap.size w w' := by
  have := specPutRow_any a n cap ls rk rv rg w h hs
  rw [hR] at this
  exact this
theorem implFind_is (a : Option Addr) (n cap : Nat) (key : Int) (ls : List (List Ch.Row)) (w : World) (h : LvAt w a n ls) (hs : Ch.lvSize ls ≤ 1048576) {c : Int} {rs : List Ch.Row} (hR : Ch.findRR ls key = (c, rs)) :
    Calls Try.prog 22 #[.slice a n cap, .int .i64 key] w fun e w' => ∃ a' m c', e = .returned (.agg #[.int .i64 c, .slice a' m c']) ∧ m ≤ 1048576 ∧ w'.ownsRow w.heap.size 42 3 (.slice a' m c') m (rcells rs) ∧ Below w.heap.size w w' := by
  have := implFindRow_any a n cap key ls w h hs
  rw [hR] at this
  exact this
theorem implDrop_is (a : Option Addr) (n cap : Nat) (key : Int) (ls : List (List Ch.Row)) (w : World) (h : LvAt w a n ls) (hs : Ch.lvSize ls ≤ 1048576) {c : Int} {ml : List (List Ch.Row)} (hR : Ch.dropR ls key = (c, ml)) :
    Calls Try.prog 23 #[.slice a n cap, .int .i64 key] w fun e w' => ∃ a' m c', e = .returned (.agg #[.int .i64 c, .slice a' m c']) ∧ OwnLv w' w.heap.size (.slice a' m c') m ml ∧ Below w.heap.size w w' := by
  have := implDropRow_any a n cap key ls w h hs
  rw [hR] at this
  exact this
theorem implFor_is (a : Option Addr) (n cap : Nat) (key : Int) (ls : List (List Ch.Row)) (w : World) (h : LvAt w a n ls) (hs : Ch.lvSize ls ≤ 1048576) {c v : Int} (hR : Ch.leafFor ls key = (c, v)) :
    Calls Try.prog 26 #[.slice a n cap, .int .i64 key] w fun e w' => e = .returned (.agg #[.int .i64 c, .int .i64 v]) ∧ Below w.heap.size w w' := by
  have := implLeafFor_any a n cap key ls w h hs
  rw [hR] at this
  exact this
theorem implLeavesOk (a : Option Addr) (n cap : Nat) (ls : List (List Ch.Row)) (w : World) (h : LvAt w a n ls) (hs : Ch.lvSize ls ≤ 1048576) (h0 : Ch.leavesFault ls = 0) :
    Calls Try.prog 24 #[.slice a n cap] w fun e w' => e = .returned (.int .i64 0) ∧ Below w.heap.size w w' := by
  have := implLeaves_any a n cap ls w h hs
  rw [h0] at this
  exact this
theorem Ch.good_small {ls : List (List Ch.Row)} (h : Ch.leavesFault ls = 0) : Ch.lvSize ls ≤ 1048576 := by
  obtain ⟨h1, h2, _, _⟩ := (Ch.good_iff ls).1 h
  have := Ch.sum_le ls 4 (fun x hx => (h2 x hx).2)
  unfold Ch.lvSize
  omega

set_option linter.unusedSimpArgs false in
set_option maxRecDepth 100000 in
set_option maxHeartbeats 16000000 in
theorem lawLeaves2_any (a : Option Addr) (n cap : Nat) (zs : List Int) (w : World) (h : CellsAt w a n (bts zs)) (hb : IsB zs) :
    Calls Try.prog 4 #[.slice a n cap] w fun e w' => e = .returned (.bool true) ∧ Below w.heap.size w w' := by
  by_cases hbig : 1048576 < n
  · have hd : decide ((1048576 : Int) < (n : Int)) = true := by simp; omega
    have BI := fun W => big_any a n cap W
    rw [hd] at BI
    go_enter Try.func4, Try.ntmps4
    go_wp2_with fail
    refine (BI _).mono ?_
    rintro e w1 ⟨rfl, rfl⟩
    go_wp2
    go_ret
    exact ⟨rfl, Below.refl _ _⟩
  have hd : decide ((1048576 : Int) < (n : Int)) = false := by simp; omega
  have BI := fun W => big_any a n cap W
  rw [hd] at BI
  go_enter Try.func4, Try.ntmps4
  go_wp2_with fail
  refine (BI _).mono ?_
  rintro e w0 ⟨rfl, rfl⟩
  go_wp2_with fail
  refine (drawPut_any a n cap zs _ h hb (by omega)).mono ?_
  rintro e w1 ⟨ls, a1, n1, c1, ⟨rk, rv, rg⟩, hbe, rfl, o1, b1⟩
  have hs : Ch.lvSize ls ≤ 1048576 := by have := hbe.1; omega
  have hsa := small_at hs
  obtain ⟨pc, rl, hR⟩ : ∃ pc rl, Ch.putR ls ⟨rk, rv, rg⟩ = (pc, rl) := ⟨_, _, rfl⟩
  have bA1 : ∀ o, Below w1.heap.size w1 (w1.alloc o) := fun o => (Below.refl _ _).alloc (Nat.le_refl _) _
  clear BI hd h hb hbe
  go_wp2_with fail
  refine (implPut_is a1 n1 c1 ls rk rv rg _ ((o1.below (bA1 _)).at hsa) hs hR).mono ?_
  rintro e w2 ⟨ar, mr, cr, rfl, orl, b2⟩
  have x0 := box_cell b2 0
  have x1 := box_cell b2 1
  have x2 := box_cell b2 2
  simp at x0 x1 x2
  have b2w := below_box b2
  have o1 := o1.below b2w
  have bE := b1.trans (b2w.mono b1.size)
  have bA2 : ∀ o, Below w2.heap.size w2 (w2.alloc o) := fun o => (Below.refl _ _).alloc (Nat.le_refl _) _
  have lx := lt_of_cell x0
  clear b2 b2w bA1 b1
  cases hpc : (pc != 0)
  · obtain rfl : pc = 0 := by simpa using hpc
    obtain ⟨hlg, hrg, hff, ⟨dl, hdd, hdg, hdf⟩, hoth, i, j, hi, hLF, hj, hij⟩ := Ch.put_tells hR
    have hrs := Ch.good_small hrg
    have hds := Ch.good_small hdg
    have hra := small_at hrs
    have hda := small_at hds
    dsimp only at hff hdd hdf hoth hLF
    have hoth := hid hoth
    clear hpc
    go_wp2_with fail
    refine (implFind_is ar mr cr rk rl _ ((orl.below (bA2 _)).at hra) hrs hff).mono ?_
    rintro e w3 ⟨af, mf, cf, rfl, _, owf, b3⟩
    obtain rfl : mf = 1 := by have := (own_rows_len owf).out; simpa using this
    have p1 := box_cell b3 1
    simp at p1
    have b3w := below_box b3
    obtain ⟨bf, qf, rfl, y0, y1, y2⟩ := (owns_cells owf).row (k := 0) (by omega)
    simp at y0 y1 y2
    have o1 := o1.below b3w
    have orl := orl.below b3w
    have x0 := keep_cell b3w x0
    have x1 := keep_cell b3w x1
    have x2 := keep_cell b3w x2
    have bE := bE.trans (b3w.mono bE.size)
    have bA3 : ∀ o, Below w3.heap.size w3 (w3.alloc o) := fun o => (Below.refl _ _).alloc (Nat.le_refl _) _
    have lx := lt_of_cell x0
    have lp := lt_of_cell p1
    clear b3 b3w bA2 owf
    go_wp2_with fail
    refine (implDrop_is ar mr cr rk rl _ ((orl.below (bA3 _)).at hra) hrs hdd).mono ?_
    rintro e w4 ⟨ad, md, cd, rfl, odl, b4⟩
    have f0 := box_cell b4 0
    have f1 := box_cell b4 1
    simp at f0 f1
    have b4w := below_box b4
    have o1 := o1.below b4w
    have orl := orl.below b4w
    have x0 := keep_cell b4w x0
    have x1 := keep_cell b4w x1
    have x2 := keep_cell b4w x2
    have p1 := keep_cell b4w p1
    have y0 := keep_cell b4w y0
    have y1 := keep_cell b4w y1
    have y2 := keep_cell b4w y2
    have bE := bE.trans (b4w.mono bE.size)
    have bA4 : ∀ o, Below w4.heap.size w4 (w4.alloc o) := fun o => (Below.refl _ _).alloc (Nat.le_refl _) _
    have hneq := fun W => neqRow rk rv rg rk rv rg W
    simp only [beq_self_eq_true, Bool.and_self, Bool.not_true] at hneq
    have lx := lt_of_cell x0
    have lp := lt_of_cell p1
    clear b4 b4w bA3
    go_wp2
    refine wp_region_noPanic ?_
    refine wp_region_held_drew (S := fun W' => W'.cell? ⟨w1.heap.size, 0, none⟩ = some (.int .i64 rk) ∧ W'.cell? ⟨w1.heap.size, 1, none⟩ = some (.int .i64 rv) ∧ W'.cell? ⟨w1.heap.size, 2, none⟩ = some (.bool rg) ∧ W'.cell? ⟨w2.heap.size, 1, none⟩ = some (.slice ar mr cr) ∧ W'.cell? ⟨w3.heap.size, 0, none⟩ = some (.int .i64 0) ∧ W'.cell? ⟨w3.heap.size, 1, none⟩ = some (.slice (some ⟨bf, qf, none⟩) 1 cf) ∧ W'.cell? ⟨bf, qf, none⟩ = some (.int .i64 rk) ∧ W'.cell? ⟨bf, qf + 1, none⟩ = some (.int .i64 rv) ∧ W'.cell? ⟨bf, qf + 2, none⟩ = some (.bool rg) ∧ W'.cell? ⟨w4.heap.size, 0, none⟩ = some (.int .i64 0) ∧ W'.cell? ⟨w4.heap.size, 1, none⟩ = some (.slice ad md cd) ∧ Below w4.heap.size w4 W') (by kernel_rfl) (⟨keep_cell (bA4 _) x0, keep_cell (bA4 _) x1, keep_cell (bA4 _) x2, keep_cell (bA4 _) p1, keep_cell (bA4 _) f0, keep_cell (bA4 _) f1, keep_cell (bA4 _) y0, keep_cell (bA4 _) y1, keep_cell (bA4 _) y2, by simp [go_sem], by simp [go_sem], (bA4 _).drew⟩) (fun hH => ?_)
    refine hTake (i := 0) (v := ?_) rfl (by kernel_rfl) (by kernel_rfl) (by kernel_rfl) (by rfl) ?_ hH ?_
    rotate_left
    · intro W hW; (try dsimp only at hW); go_simp <;> with_reducible rfl
    simp only [Act.put, List.setIfInBounds_toArray, List.set_cons_zero, List.set_cons_succ]
    refine hTake (i := 1) (v := ?_) rfl (by kernel_rfl) (by kernel_rfl) (by kernel_rfl) (by rfl) ?_ hH ?_
    rotate_left
    · intro W hW; (try dsimp only at hW); go_simp <;> with_reducible rfl
    simp only [Act.put, List.setIfInBounds_toArray, List.set_cons_zero, List.set_cons_succ]
    refine wpAnyH_ready (rs := [2]) (by kernel_rfl) (by simp) ?_
    refine AllReadyH.cons rfl (fun K hK => ?_) AllReadyH.nil
    go_simp
    refine (implLeavesOk ar mr cr rl _ ((orl.below hH.2.2.2.2.2.2.2.2.2.2.2).at hra) hrs hrg).mono ?_
    rintro e w5 ⟨rfl, b5⟩
    go_wp2_with fail
    refine hK.out _ _ ?_ (fun hH => ?_)
    · exact ⟨keep_cell b5 hH.1, keep_cell b5 hH.2.1, keep_cell b5 hH.2.2.1, keep_cell b5 hH.2.2.2.1, keep_cell b5 hH.2.2.2.2.1, keep_cell b5 hH.2.2.2.2.2.1, keep_cell b5 hH.2.2.2.2.2.2.1, keep_cell b5 hH.2.2.2.2.2.2.2.1, keep_cell b5 hH.2.2.2.2.2.2.2.2.1, keep_cell b5 hH.2.2.2.2.2.2.2.2.2.1, keep_cell b5 hH.2.2.2.2.2.2.2.2.2.2.1, hH.2.2.2.2.2.2.2.2.2.2.2.trans (b5.mono hH.2.2.2.2.2.2.2.2.2.2.2.size)⟩
    clear hK K
    refine hTake (i := 3) (v := ?_) rfl (by kernel_rfl) (by kernel_rfl) (by kernel_rfl) (by rfl) ?_ hH ?_
    rotate_left
    · intro W hW; (try dsimp only at hW); go_simp <;> with_reducible rfl
    simp only [Act.put, List.setIfInBounds_toArray, List.set_cons_zero, List.set_cons_succ]
    refine hTake (i := 4) (v := ?_) rfl (by kernel_rfl) (by kernel_rfl) (by kernel_rfl) (by rfl) ?_ hH ?_
    rotate_left
    · intro W hW; (try dsimp only at hW); go_simp <;> with_reducible rfl
    simp only [Act.put, List.setIfInBounds_toArray, List.set_cons_zero, List.set_cons_succ]
    refine hTake (i := 5) (v := ?_) rfl (by kernel_rfl) (by kernel_rfl) (by kernel_rfl) (by rfl) ?_ hH ?_
    rotate_left
    · intro W hW; (try dsimp only at hW); go_simp <;> with_reducible rfl
    simp only [Act.put, List.setIfInBounds_toArray, List.set_cons_zero, List.set_cons_succ]
    refine hTake (i := 6) (v := ?_) rfl (by kernel_rfl) (by kernel_rfl) (by kernel_rfl) (by rfl) ?_ hH ?_
    rotate_left
    · intro W hW; (try dsimp only at hW); go_simp <;> with_reducible rfl
    simp only [Act.put, List.setIfInBounds_toArray, List.set_cons_zero, List.set_cons_succ]
    refine hTake (i := 7) (v := ?_) rfl (by kernel_rfl) (by kernel_rfl) (by kernel_rfl) (by rfl) ?_ hH ?_
    rotate_left
    · intro W hW; (try dsimp only at hW); go_simp <;> with_reducible rfl
    simp only [Act.put, List.setIfInBounds_toArray, List.set_cons_zero, List.set_cons_succ]
    refine hTake (i := 8) (v := ?_) rfl (by kernel_rfl) (by kernel_rfl) (by kernel_rfl) (by rfl) ?_ hH ?_
    rotate_left
    · intro W hW; (try dsimp only at hW); go_simp <;> with_reducible rfl
    simp only [Act.put, List.setIfInBounds_toArray, List.set_cons_zero, List.set_cons_succ]
    refine hTake (i := 9) (v := ?_) rfl (by kernel_rfl) (by kernel_rfl) (by kernel_rfl) (by rfl) ?_ hH ?_
    rotate_left
    · intro W hW; (try dsimp only at hW); go_simp <;> with_reducible rfl
    simp only [Act.put, List.setIfInBounds_toArray, List.set_cons_zero, List.set_cons_succ]
    refine hTake (i := 10) (v := ?_) rfl (by kernel_rfl) (by kernel_rfl) (by kernel_rfl) (by rfl) ?_ hH ?_
    rotate_left
    · intro W hW; (try dsimp only at hW); go_simp <;> with_reducible rfl
    simp only [Act.put, List.setIfInBounds_toArray, List.set_cons_zero, List.set_cons_succ]
    refine hTake (i := 11) (v := ?_) rfl (by kernel_rfl) (by kernel_rfl) (by kernel_rfl) (by rfl) ?_ hH ?_
    rotate_left
    · intro W hW; (try dsimp only at hW); go_simp <;> with_reducible rfl
    simp only [Act.put, List.setIfInBounds_toArray, List.set_cons_zero, List.set_cons_succ]
    refine hTake (i := 12) (v := ?_) rfl (by kernel_rfl) (by kernel_rfl) (by kernel_rfl) (by rfl) ?_ hH ?_
    rotate_left
    · intro W hW; (try dsimp only at hW); go_simp <;> with_reducible rfl
    simp only [Act.put, List.setIfInBounds_toArray, List.set_cons_zero, List.set_cons_succ]
    refine hTake (i := 13) (v := ?_) rfl (by kernel_rfl) (by kernel_rfl) (by kernel_rfl) (by rfl) ?_ hH ?_
    rotate_left
    · intro W hW; (try dsimp only at hW); go_simp <;> with_reducible rfl
    simp only [Act.put, List.setIfInBounds_toArray, List.set_cons_zero, List.set_cons_succ]
    refine hTake (i := 14) (v := ?_) rfl (by kernel_rfl) (by kernel_rfl) (by kernel_rfl) (by rfl) ?_ hH ?_
    rotate_left
    · intro W hW; (try dsimp only at hW); go_simp <;> with_reducible rfl
    simp only [Act.put, List.setIfInBounds_toArray, List.set_cons_zero, List.set_cons_succ]
    refine hTake (i := 15) (v := ?_) rfl (by kernel_rfl) (by kernel_rfl) (by kernel_rfl) (by rfl) ?_ hH ?_
    rotate_left
    · intro W hW; (try dsimp only at hW); go_simp <;> with_reducible rfl
    simp only [Act.put, List.setIfInBounds_toArray, List.set_cons_zero, List.set_cons_succ]
    refine hTake (i := 16) (v := ?_) rfl (by kernel_rfl) (by kernel_rfl) (by kernel_rfl) (by rfl) ?_ hH ?_
    rotate_left
    · intro W hW; (try dsimp only at hW); go_simp <;> with_reducible rfl
    simp only [Act.put, List.setIfInBounds_toArray, List.set_cons_zero, List.set_cons_succ]
    refine hTake (i := 17) (v := ?_) rfl (by kernel_rfl) (by kernel_rfl) (by kernel_rfl) (by rfl) ?_ hH ?_
    rotate_left
    · intro W hW; (try dsimp only at hW); go_simp <;> with_reducible rfl
    simp only [Act.put, List.setIfInBounds_toArray, List.set_cons_zero, List.set_cons_succ]
    refine hTake (i := 18) (v := ?_) rfl (by kernel_rfl) (by kernel_rfl) (by kernel_rfl) (by rfl) ?_ hH ?_
    rotate_left
    · intro W hW; (try dsimp only at hW); go_simp <;> with_reducible rfl
    simp only [Act.put, List.setIfInBounds_toArray, List.set_cons_zero, List.set_cons_succ]
    refine hTake (i := 19) (v := ?_) rfl (by kernel_rfl) (by kernel_rfl) (by kernel_rfl) (by rfl) ?_ hH ?_
    rotate_left
    · intro W hW; (try dsimp only at hW); go_simp <;> with_reducible rfl
    simp only [Act.put, List.setIfInBounds_toArray, List.set_cons_zero, List.set_cons_succ]
    refine hTake (i := 20) (v := ?_) rfl (by kernel_rfl) (by kernel_rfl) (by kernel_rfl) (by rfl) ?_ hH ?_
    rotate_left
    · intro W hW; (try dsimp only at hW); go_simp <;> with_reducible rfl
    simp only [Act.put, List.setIfInBounds_toArray, List.set_cons_zero, List.set_cons_succ]
    refine hTake (i := 21) (v := ?_) rfl (by kernel_rfl) (by kernel_rfl) (by kernel_rfl) (by rfl) ?_ hH ?_
    rotate_left
    · intro W hW; (try dsimp only at hW); go_simp <;> with_reducible rfl
    simp only [Act.put, List.setIfInBounds_toArray, List.set_cons_zero, List.set_cons_succ]
    refine hTake (i := 22) (v := ?_) rfl (by kernel_rfl) (by kernel_rfl) (by kernel_rfl) (by rfl) ?_ hH ?_
    rotate_left
    · intro W hW; (try dsimp only at hW); go_simp <;> with_reducible rfl
    simp only [Act.put, List.setIfInBounds_toArray, List.set_cons_zero, List.set_cons_succ]
    refine hTake (i := 23) (v := ?_) rfl (by kernel_rfl) (by kernel_rfl) (by kernel_rfl) (by rfl) ?_ hH ?_
    rotate_left
    · intro W hW; (try dsimp only at hW); go_simp <;> with_reducible rfl
    simp only [Act.put, List.setIfInBounds_toArray, List.set_cons_zero, List.set_cons_succ]
    refine hTake (i := 24) (v := ?_) rfl (by kernel_rfl) (by kernel_rfl) (by kernel_rfl) (by rfl) ?_ hH ?_
    rotate_left
    · intro W hW; (try dsimp only at hW); go_simp <;> with_reducible rfl
    simp only [Act.put, List.setIfInBounds_toArray, List.set_cons_zero, List.set_cons_succ]
    refine hTake (i := 25) (v := ?_) rfl (by kernel_rfl) (by kernel_rfl) (by kernel_rfl) (by rfl) ?_ hH ?_
    rotate_left
    · intro W hW; (try dsimp only at hW); go_simp <;> with_reducible rfl
    simp only [Act.put, List.setIfInBounds_toArray, List.set_cons_zero, List.set_cons_succ]
    refine hTake (i := 26) (v := ?_) rfl (by kernel_rfl) (by kernel_rfl) (by kernel_rfl) (by rfl) ?_ hH ?_
    rotate_left
    · intro W hW; (try dsimp only at hW); go_simp <;> with_reducible rfl
    simp only [Act.put, List.setIfInBounds_toArray, List.set_cons_zero, List.set_cons_succ]
    refine hTake (i := 27) (v := ?_) rfl (by kernel_rfl) (by kernel_rfl) (by kernel_rfl) (by rfl) ?_ hH ?_
    rotate_left
    · intro W hW; (try dsimp only at hW); go_simp <;> with_reducible rfl
    simp only [Act.put, List.setIfInBounds_toArray, List.set_cons_zero, List.set_cons_succ]
    refine hTake (i := 28) (v := ?_) rfl (by kernel_rfl) (by kernel_rfl) (by kernel_rfl) (by rfl) ?_ hH ?_
    rotate_left
    · intro W hW; (try dsimp only at hW); go_simp <;> with_reducible rfl
    simp only [Act.put, List.setIfInBounds_toArray, List.set_cons_zero, List.set_cons_succ]
    refine hTake (i := 29) (v := ?_) rfl (by kernel_rfl) (by kernel_rfl) (by kernel_rfl) (by rfl) ?_ hH ?_
    rotate_left
    · intro W hW; (try dsimp only at hW); go_simp <;> with_reducible rfl
    simp only [Act.put, List.setIfInBounds_toArray, List.set_cons_zero, List.set_cons_succ]
    refine hTake (i := 30) (v := ?_) rfl (by kernel_rfl) (by kernel_rfl) (by kernel_rfl) (by rfl) ?_ hH ?_
    rotate_left
    · intro W hW; (try dsimp only at hW); go_simp <;> with_reducible rfl
    simp only [Act.put, List.setIfInBounds_toArray, List.set_cons_zero, List.set_cons_succ]
    refine hTake (i := 31) (v := ?_) rfl (by kernel_rfl) (by kernel_rfl) (by kernel_rfl) (by rfl) ?_ hH ?_
    rotate_left
    · intro W hW; (try dsimp only at hW); go_simp <;> with_reducible rfl
    simp only [Act.put, List.setIfInBounds_toArray, List.set_cons_zero, List.set_cons_succ]
    refine hTake (i := 32) (v := ?_) rfl (by kernel_rfl) (by kernel_rfl) (by kernel_rfl) (by rfl) ?_ hH ?_
    rotate_left
    · intro W hW; (try dsimp only at hW); go_simp <;> with_reducible rfl
    simp only [Act.put, List.setIfInBounds_toArray, List.set_cons_zero, List.set_cons_succ]
    refine wpAnyH_ready (rs := [33]) (by kernel_rfl) (by simp) ?_
    refine AllReadyH.cons rfl (fun K hK => ?_) AllReadyH.nil
    go_simp
    refine (implFind_is ad md cd rk dl _ ((odl.below hH.2.2.2.2.2.2.2.2.2.2.2).at hda) hds hdf).mono ?_
    rintro e w6 ⟨a6, m6, c6, rfl, _, _, b6⟩
    have hfd6 := fun W => (fieldRw 4 a6 m6 c6 W).1
    go_wp2_with fail
    refine hK.out _ _ ?_ (fun hH => ?_)
    · exact ⟨keep_cell b6 hH.1, keep_cell b6 hH.2.1, keep_cell b6 hH.2.2.1, keep_cell b6 hH.2.2.2.1, keep_cell b6 hH.2.2.2.2.1, keep_cell b6 hH.2.2.2.2.2.1, keep_cell b6 hH.2.2.2.2.2.2.1, keep_cell b6 hH.2.2.2.2.2.2.2.1, keep_cell b6 hH.2.2.2.2.2.2.2.2.1, keep_cell b6 hH.2.2.2.2.2.2.2.2.2.1, keep_cell b6 hH.2.2.2.2.2.2.2.2.2.2.1, hH.2.2.2.2.2.2.2.2.2.2.2.trans (b6.mono hH.2.2.2.2.2.2.2.2.2.2.2.size)⟩
    clear hK K
    refine hTake (i := 34) (v := ?_) rfl (by kernel_rfl) (by kernel_rfl) (by kernel_rfl) (by rfl) ?_ hH ?_
    rotate_left
    · intro W hW; (try dsimp only at hW); go_simp <;> with_reducible rfl
    simp only [Act.put, List.setIfInBounds_toArray, List.set_cons_zero, List.set_cons_succ]
    refine hTake (i := 35) (v := ?_) rfl (by kernel_rfl) (by kernel_rfl) (by kernel_rfl) (by rfl) ?_ hH ?_
    rotate_left
    · intro W hW; (try dsimp only at hW); go_simp <;> with_reducible rfl
    simp only [Act.put, List.setIfInBounds_toArray, List.set_cons_zero, List.set_cons_succ]
    refine hTake (i := 36) (v := ?_) rfl (by kernel_rfl) (by kernel_rfl) (by kernel_rfl) (by rfl) ?_ hH ?_
    rotate_left
    · intro W hW; (try dsimp only at hW); go_simp <;> with_reducible rfl
    simp only [Act.put, List.setIfInBounds_toArray, List.set_cons_zero, List.set_cons_succ]
    refine wpAnyH_done (by kernel_rfl) ?_ _
    refine NoPanic.normal ?_
    have b9 := hH.2.2.2.2.2.2.2.2.2.2.2
    have d1 := hH.2.2.2.2.2.2.2.2.2.2.1
    clear hH hneq
    have o1 := o1.below b9
    have orl := orl.below b9
    have odl := odl.below b9
    have x0 := keep_cell b9 x0
    have x1 := keep_cell b9 x1
    have x2 := keep_cell b9 x2
    have p1 := keep_cell b9 p1
    have bE := bE.trans (b9.mono bE.size)
    clear b9 bA4 f0 f1 y0 y1 y2
    go_wp2
    go_loopw [8] (fun q wr => ∃ k : Nat, k ≤ 100 ∧ q = .int .i64 k ∧ Below w6.heap.size w6 wr) (fun q _ => 100 - (intOf q).toNat)
    case atStart => exact ⟨0, by omega, rfl, Below.refl _ _⟩
    case round =>
      obtain ⟨k, hk, rfl, hB⟩ := hrel
      have u0 := keep_cell hB x0
      have u1 := keep_cell hB p1
      have O1 := o1.below hB
      have ORL := orl.below hB
      by_cases hlt : k < 100
      · have hk99 : (k : Int) ≤ 99 := by omega
        by_cases hkr : (k : Int) = rk
        · have hne : ((k : Int) != rk) = false := by simpa using hkr
          go_wp2
          refine wp_region_noPanic ?_
          refine wp_region_held_drew (S := fun W' => W'.cell? ⟨w1.heap.size, 0, none⟩ = some (.int .i64 rk) ∧ W'.cell? ⟨w2.heap.size, 1, none⟩ = some (.slice ar mr cr) ∧ Below wr.heap.size wr W') (by kernel_rfl) (⟨u0, u1, (Below.refl _ _).drew⟩) (fun hH => ?_)
          refine hTake (i := 0) (v := ?_) rfl (by kernel_rfl) (by kernel_rfl) (by kernel_rfl) (by rfl) ?_ hH ?_
          rotate_left
          · intro W hW; (try dsimp only at hW); go_simp <;> with_reducible rfl
          simp only [Act.put, List.setIfInBounds_toArray, List.set_cons_zero, List.set_cons_succ]
          refine hTake (i := 1) (v := ?_) rfl (by kernel_rfl) (by kernel_rfl) (by kernel_rfl) (by rfl) ?_ hH ?_
          rotate_left
          · intro W hW; (try dsimp only at hW); go_simp <;> with_reducible rfl
          simp only [Act.put, List.setIfInBounds_toArray, List.set_cons_zero, List.set_cons_succ]
          refine hTake (i := 2) (v := ?_) rfl (by kernel_rfl) (by kernel_rfl) (by kernel_rfl) (by rfl) ?_ hH ?_
          rotate_left
          · intro W hW; (try dsimp only at hW); go_simp <;> with_reducible rfl
          simp only [Act.put, List.setIfInBounds_toArray, List.set_cons_zero, List.set_cons_succ]
          refine hTake (i := 3) (v := ?_) rfl (by kernel_rfl) (by kernel_rfl) (by kernel_rfl) (by rfl) ?_ hH ?_
          rotate_left
          · intro W hW; (try dsimp only at hW); go_simp <;> with_reducible rfl
          simp only [Act.put, List.setIfInBounds_toArray, List.set_cons_zero, List.set_cons_succ]
          refine hTake (i := 4) (v := ?_) rfl (by kernel_rfl) (by kernel_rfl) (by kernel_rfl) (by rfl) ?_ hH ?_
          rotate_left
          · intro W hW; (try dsimp only at hW); go_simp <;> with_reducible rfl
          simp only [Act.put, List.setIfInBounds_toArray, List.set_cons_zero, List.set_cons_succ]
          refine hSkip (i := 5) rfl (by kernel_rfl) (by kernel_rfl) (by kernel_rfl) (by rfl) hH ?_
          simp only [Act.put, List.setIfInBounds_toArray, List.set_cons_zero, List.set_cons_succ]
          refine hSkip (i := 6) rfl (by kernel_rfl) (by kernel_rfl) (by kernel_rfl) (by rfl) hH ?_
          simp only [Act.put, List.setIfInBounds_toArray, List.set_cons_zero, List.set_cons_succ]
          refine hSkip (i := 7) rfl (by kernel_rfl) (by kernel_rfl) (by kernel_rfl) (by rfl) hH ?_
          simp only [Act.put, List.setIfInBounds_toArray, List.set_cons_zero, List.set_cons_succ]
          refine hSkip (i := 8) rfl (by kernel_rfl) (by kernel_rfl) (by kernel_rfl) (by rfl) hH ?_
          simp only [Act.put, List.setIfInBounds_toArray, List.set_cons_zero, List.set_cons_succ]
          refine hSkip (i := 9) rfl (by kernel_rfl) (by kernel_rfl) (by kernel_rfl) (by rfl) hH ?_
          simp only [Act.put, List.setIfInBounds_toArray, List.set_cons_zero, List.set_cons_succ]
          refine hSkip (i := 10) rfl (by kernel_rfl) (by kernel_rfl) (by kernel_rfl) (by rfl) hH ?_
          simp only [Act.put, List.setIfInBounds_toArray, List.set_cons_zero, List.set_cons_succ]
          refine hSkip (i := 11) rfl (by kernel_rfl) (by kernel_rfl) (by kernel_rfl) (by rfl) hH ?_
          simp only [Act.put, List.setIfInBounds_toArray, List.set_cons_zero, List.set_cons_succ]
          refine hSkip (i := 12) rfl (by kernel_rfl) (by kernel_rfl) (by kernel_rfl) (by rfl) hH ?_
          simp only [Act.put, List.setIfInBounds_toArray, List.set_cons_zero, List.set_cons_succ]
          refine hSkip (i := 13) rfl (by kernel_rfl) (by kernel_rfl) (by kernel_rfl) (by rfl) hH ?_
          simp only [Act.put, List.setIfInBounds_toArray, List.set_cons_zero, List.set_cons_succ]
          refine hSkip (i := 14) rfl (by kernel_rfl) (by kernel_rfl) (by kernel_rfl) (by rfl) hH ?_
          simp only [Act.put, List.setIfInBounds_toArray, List.set_cons_zero, List.set_cons_succ]
          refine hSkip (i := 15) rfl (by kernel_rfl) (by kernel_rfl) (by kernel_rfl) (by rfl) hH ?_
          simp only [Act.put, List.setIfInBounds_toArray, List.set_cons_zero, List.set_cons_succ]
          refine hTake (i := 16) (v := ?_) rfl (by kernel_rfl) (by kernel_rfl) (by kernel_rfl) (by rfl) ?_ hH ?_
          rotate_left
          · intro W hW; (try dsimp only at hW); go_simp <;> with_reducible rfl
          simp only [Act.put, List.setIfInBounds_toArray, List.set_cons_zero, List.set_cons_succ]
          refine wpAnyH_done (by kernel_rfl) ?_ _
          refine NoPanic.normal ?_
          have b14 := hH.2.2
          clear hH
          go_wp2
          go_roundw
          case rel => exact ⟨k + 1, by omega, by go_num, hB.trans (b14.mono hB.size)⟩
          case measure => simp [intOf]; omega
        · have hne : ((k : Int) != rk) = true := by simpa using hkr
          obtain ⟨fa, ra, hA⟩ : ∃ fa ra, Ch.findRR ls (k : Int) = (fa, ra) := ⟨_, _, rfl⟩
          obtain ⟨fb, rb, hB'⟩ : ∃ fb rb, Ch.findRR rl (k : Int) = (fb, rb) := ⟨_, _, rfl⟩
          obtain rfl : ra = rb := by have := hoth.out (k : Int) (by omega) hk99 hkr; rw [hA, hB'] at this; exact this
          go_wp2
          refine wp_region_noPanic ?_
          refine wp_region_held_drew (S := fun W' => W'.cell? ⟨w1.heap.size, 0, none⟩ = some (.int .i64 rk) ∧ W'.cell? ⟨w2.heap.size, 1, none⟩ = some (.slice ar mr cr) ∧ Below wr.heap.size wr W') (by kernel_rfl) (⟨u0, u1, (Below.refl _ _).drew⟩) (fun hH => ?_)
          refine hTake (i := 0) (v := ?_) rfl (by kernel_rfl) (by kernel_rfl) (by kernel_rfl) (by rfl) ?_ hH ?_
          rotate_left
          · intro W hW; (try dsimp only at hW); go_simp <;> with_reducible rfl
          simp only [Act.put, List.setIfInBounds_toArray, List.set_cons_zero, List.set_cons_succ]
          refine hTake (i := 1) (v := ?_) rfl (by kernel_rfl) (by kernel_rfl) (by kernel_rfl) (by rfl) ?_ hH ?_
          rotate_left
          · intro W hW; (try dsimp only at hW); go_simp <;> with_reducible rfl
          simp only [Act.put, List.setIfInBounds_toArray, List.set_cons_zero, List.set_cons_succ]
          refine hTake (i := 2) (v := ?_) rfl (by kernel_rfl) (by kernel_rfl) (by kernel_rfl) (by rfl) ?_ hH ?_
          rotate_left
          · intro W hW; (try dsimp only at hW); go_simp <;> with_reducible rfl
          simp only [Act.put, List.setIfInBounds_toArray, List.set_cons_zero, List.set_cons_succ]
          refine hTake (i := 3) (v := ?_) rfl (by kernel_rfl) (by kernel_rfl) (by kernel_rfl) (by rfl) ?_ hH ?_
          rotate_left
          · intro W hW; (try dsimp only at hW); go_simp <;> with_reducible rfl
          simp only [Act.put, List.setIfInBounds_toArray, List.set_cons_zero, List.set_cons_succ]
          refine hTake (i := 4) (v := ?_) rfl (by kernel_rfl) (by kernel_rfl) (by kernel_rfl) (by rfl) ?_ hH ?_
          rotate_left
          · intro W hW; (try dsimp only at hW); go_simp <;> with_reducible rfl
          simp only [Act.put, List.setIfInBounds_toArray, List.set_cons_zero, List.set_cons_succ]
          refine hTake (i := 5) (v := ?_) rfl (by kernel_rfl) (by kernel_rfl) (by kernel_rfl) (by rfl) ?_ hH ?_
          rotate_left
          · intro W hW; (try dsimp only at hW); go_simp <;> with_reducible rfl
          simp only [Act.put, List.setIfInBounds_toArray, List.set_cons_zero, List.set_cons_succ]
          refine hTake (i := 6) (v := ?_) rfl (by kernel_rfl) (by kernel_rfl) (by kernel_rfl) (by rfl) ?_ hH ?_
          rotate_left
          · intro W hW; (try dsimp only at hW); go_simp <;> with_reducible rfl
          simp only [Act.put, List.setIfInBounds_toArray, List.set_cons_zero, List.set_cons_succ]
          refine hTake (i := 9) (v := ?_) rfl (by kernel_rfl) (by kernel_rfl) (by kernel_rfl) (by rfl) ?_ hH ?_
          rotate_left
          · intro W hW; (try dsimp only at hW); go_simp <;> with_reducible rfl
          simp only [Act.put, List.setIfInBounds_toArray, List.set_cons_zero, List.set_cons_succ]
          refine hTake (i := 10) (v := ?_) rfl (by kernel_rfl) (by kernel_rfl) (by kernel_rfl) (by rfl) ?_ hH ?_
          rotate_left
          · intro W hW; (try dsimp only at hW); go_simp <;> with_reducible rfl
          simp only [Act.put, List.setIfInBounds_toArray, List.set_cons_zero, List.set_cons_succ]
          refine hTake (i := 11) (v := ?_) rfl (by kernel_rfl) (by kernel_rfl) (by kernel_rfl) (by rfl) ?_ hH ?_
          rotate_left
          · intro W hW; (try dsimp only at hW); go_simp <;> with_reducible rfl
          simp only [Act.put, List.setIfInBounds_toArray, List.set_cons_zero, List.set_cons_succ]
          refine wpAnyH_ready (rs := [7]) (by kernel_rfl) (by simp) ?_
          refine AllReadyH.cons rfl (fun K hK => ?_) AllReadyH.nil
          go_simp
          refine (implFind_is a1 n1 c1 (k : Int) ls _ ((O1.below hH.2.2).at hsa) hs hA).mono ?_
          rintro e w7 ⟨a7, m7, c7, rfl, hm7, ow7, b7⟩
          have hfd7 := fun W => (fieldRw fa a7 m7 c7 W).2
          go_wp2_with fail
          refine hK.out _ _ ?_ (fun hH => ?_)
          · exact ⟨keep_cell b7 hH.1, keep_cell b7 hH.2.1, hH.2.2.trans (b7.mono hH.2.2.size)⟩
          clear hK K
          refine hTake (i := 8) (v := ?_) rfl (by kernel_rfl) (by kernel_rfl) (by kernel_rfl) (by rfl) ?_ hH ?_
          rotate_left
          · intro W hW; (try dsimp only at hW); go_simp <;> with_reducible rfl
          simp only [Act.put, List.setIfInBounds_toArray, List.set_cons_zero, List.set_cons_succ]
          refine wpAnyH_ready (rs := [12]) (by kernel_rfl) (by simp) ?_
          refine AllReadyH.cons rfl (fun K hK => ?_) AllReadyH.nil
          go_simp
          refine (implFind_is ar mr cr (k : Int) rl _ ((ORL.below hH.2.2).at hra) hrs hB').mono ?_
          rintro e w8 ⟨a8, m8, c8, rfl, hm8, ow8, b8⟩
          have hfd8 := fun W => (fieldRw fb a8 m8 c8 W).2
          have ow7 := owns_below ow7 b8
          go_wp2_with fail
          refine hK.out _ _ ?_ (fun hH => ?_)
          · exact ⟨keep_cell b8 hH.1, keep_cell b8 hH.2.1, hH.2.2.trans (b8.mono hH.2.2.size)⟩
          clear hK K
          refine hTake (i := 13) (v := ?_) rfl (by kernel_rfl) (by kernel_rfl) (by kernel_rfl) (by rfl) ?_ hH ?_
          rotate_left
          · intro W hW; (try dsimp only at hW); go_simp <;> with_reducible rfl
          simp only [Act.put, List.setIfInBounds_toArray, List.set_cons_zero, List.set_cons_succ]
          refine wpAnyH_ready (rs := [14]) (by kernel_rfl) (by simp) ?_
          refine AllReadyH.cons rfl (fun K hK => ?_) AllReadyH.nil
          go_simp
          refine (lwRows_any a7 a8 m7 c7 m8 c8 ra ra _ (owns_cells ow7) (owns_cells ow8) hm7 hm8).mono ?_
          rw [Ch.sameL_self]
          rintro e w9 ⟨rfl, b9⟩
          go_wp2_with fail
          refine hK.out _ _ ?_ (fun hH => ?_)
          · exact ⟨keep_cell b9 hH.1, keep_cell b9 hH.2.1, hH.2.2.trans (b9.mono hH.2.2.size)⟩
          clear hK K
          refine hTake (i := 15) (v := ?_) rfl (by kernel_rfl) (by kernel_rfl) (by kernel_rfl) (by rfl) ?_ hH ?_
          rotate_left
          · intro W hW; (try dsimp only at hW); go_simp <;> with_reducible rfl
          simp only [Act.put, List.setIfInBounds_toArray, List.set_cons_zero, List.set_cons_succ]
          refine hTake (i := 16) (v := ?_) rfl (by kernel_rfl) (by kernel_rfl) (by kernel_rfl) (by rfl) ?_ hH ?_
          rotate_left
          · intro W hW; (try dsimp only at hW); go_simp <;> with_reducible rfl
          simp only [Act.put, List.setIfInBounds_toArray, List.set_cons_zero, List.set_cons_succ]
          refine wpAnyH_done (by kernel_rfl) ?_ _
          refine NoPanic.normal ?_
          have b14 := hH.2.2
          clear hH
          go_wp2
          go_roundw
          case rel => exact ⟨k + 1, by omega, by go_num, hB.trans (b14.mono hB.size)⟩
          case measure => simp [intOf]; omega
      · obtain rfl : k = 100 := by omega
        have u2 := keep_cell hB x1
        have u3 := keep_cell hB x2
        have d1 := keep_cell hB d1
        have ODL := odl.below hB
        have bE := bE.trans (hB.mono bE.size)
        obtain ⟨we, hwe⟩ : ∃ x : World, x = wr := ⟨_, rfl⟩
        subst hwe
        have lx := lt_of_cell u0
        have lp := lt_of_cell u1
        clear hB x0 x1 x2 p1 o1 orl odl O1
        go_wp2_with fail
        refine (implFor_is ar mr cr rk rl _ (ORL.at hra) hrs hLF).mono ?_
        rintro e w7 ⟨rfl, b7⟩
        have x0 := keep_cell b7 u0
        have x1 := keep_cell b7 u2
        have x2 := keep_cell b7 u3
        have p1 := keep_cell b7 u1
        have d1 := keep_cell b7 d1
        have odl := ODL.below b7
        have orl := ORL.below b7
        have bE := bE.trans (b7.mono bE.size)
        have bA7 : Below w7.heap.size w7 (w7.alloc (.cells #[.int .i64 0, .int .i64 i] 56)) := (Below.refl _ _).alloc (Nat.le_refl _) _
        have himr : i < mr := by have := orl.1; omega
        obtain ⟨bl, ql, al, N, cl, rfl, g0, hrl, hNm⟩ := (orl.at hra).leaf himr
        have HN := hrl.rlen
        have hjN : j < N := by have := HN.out; omega
        obtain ⟨br, qr, rfl, _⟩ := hrl.row (k := 0) (by omega)
        have hN4 : N ≤ 4 := by have h1 := (((Ch.good_iff rl).1 hrg).2.1 _ (Ch.getD_memX rl i hi)).2; have := HN.out; omega
        have hij := hid hij
        generalize rl.getD i [] = lf at *
        have l1 : (w7.alloc (.cells #[.int .i64 0, .int .i64 i] 56)).cell? ⟨w7.heap.size, 1, none⟩ = some (.int .i64 i) := by simp [go_sem]
        have l0 : (w7.alloc (.cells #[.int .i64 0, .int .i64 i] 56)).cell? ⟨w7.heap.size, 0, none⟩ = some (.int .i64 0) := by simp [go_sem]
        have x0 := keep_cell bA7 x0
        have x1 := keep_cell bA7 x1
        have x2 := keep_cell bA7 x2
        have p1 := keep_cell bA7 p1
        have d1 := keep_cell bA7 d1
        have g0 := keep_cell bA7 g0
        have hrl := hrl.below bA7
        have odl := odl.below bA7
        have bE := bE.trans (bA7.mono bE.size)
        clear u0 u1 u2 u3 ODL ORL b7 bA7 lx lp
        obtain ⟨V, hV⟩ : ∃ V, V = w7.alloc (.cells #[.int .i64 0, .int .i64 i] 56) := ⟨_, rfl⟩
        rw [← hV] at l0 l1 x0 x1 x2 p1 d1 g0 hrl odl bE
        go_wp2
        rw [← hV]
        clear hV
        have himi : (i : Int) < (mr : Int) := by omega
        go_loopw [10, 11] (fun q t wr => ∃ (k : Nat) (qb : Bool), k ≤ N ∧ t = .int .i64 k ∧ q = .bool qb ∧ Hid (j < k → qb = true) ∧ Below V.heap.size V wr) (fun _ t _ => N - (intOf t).toNat)
        case atStart => exact ⟨0, false, by omega, rfl, rfl, fun h => by omega, Below.refl _ _⟩
        case round =>
          obtain ⟨k, qb, hk, rfl, rfl, HQ, hB⟩ := hrel
          have u0 := keep_cell hB x0
          have u1 := keep_cell hB x1
          have u2 := keep_cell hB x2
          have v1 := keep_cell hB p1
          have l1 := keep_cell hB l1
          have g1 := keep_cell hB g0
          by_cases hlt : k < N
          · obtain ⟨br', qr', hbr, z0, z1, z2⟩ := (hrl.below hB).row hlt
            simp only [Option.some.injEq, Addr.mk.injEq, and_true] at hbr
            obtain ⟨rfl, rfl⟩ := hbr
            have HJ : Hid (k = j → lf.getD k Ch.Row.zero = ⟨rk, rv, rg⟩) := fun e => by rw [e]; exact hij.out
            generalize lf.getD k Ch.Row.zero = rr at *
            obtain ⟨sk, sv, sg⟩ := rr
            simp only at z0 z1 z2
            cases qb
            · obtain ⟨eb, heb⟩ : ∃ eb, (sk == rk && (sv == rv && sg == rg)) = eb := ⟨_, rfl⟩
              have heq := fun W => eqlRow sk sv sg rk rv rg W
              rw [heb] at heq
              have HE : Hid (j < k + 1 → eb = true) := fun hjk => by
                by_cases hjk' : j < k
                · exact absurd (HQ.out hjk') (by simp)
                · have := HJ.out (by omega)
                  cases this
                  rw [← heb]
                  simp
              clear heb HJ
              go_wp2
              refine wp_region_noPanic ?_
              refine wp_region_held_drew (S := fun W' => W'.cell? ⟨w1.heap.size, 0, none⟩ = some (.int .i64 rk) ∧ W'.cell? ⟨w1.heap.size, 1, none⟩ = some (.int .i64 rv) ∧ W'.cell? ⟨w1.heap.size, 2, none⟩ = some (.bool rg) ∧ W'.cell? ⟨w2.heap.size, 1, none⟩ = some (.slice (some ⟨bl, ql, none⟩) mr cr) ∧ W'.cell? ⟨w7.heap.size, 1, none⟩ = some (.int .i64 i) ∧ W'.cell? ⟨bl, ql + i, none⟩ = some (.slice (some ⟨br, qr, none⟩) N cl) ∧ W'.cell? ⟨br, qr + k * 3, none⟩ = some (.int .i64 sk) ∧ W'.cell? ⟨br, qr + k * 3 + 1, none⟩ = some (.int .i64 sv) ∧ W'.cell? ⟨br, qr + k * 3 + 2, none⟩ = some (.bool sg) ∧ Below wr.heap.size wr W') (by kernel_rfl) (⟨u0, u1, u2, v1, l1, g1, z0, z1, z2, (Below.refl _ _).drew⟩) (fun hH => ?_)
              refine hTake (i := 0) (v := ?_) rfl (by kernel_rfl) (by kernel_rfl) (by kernel_rfl) (by rfl) ?_ hH ?_
              rotate_left
              · intro W hW; (try dsimp only at hW); go_simp <;> with_reducible rfl
              simp only [Act.put, List.setIfInBounds_toArray, List.set_cons_zero, List.set_cons_succ]
              refine hTake (i := 1) (v := ?_) rfl (by kernel_rfl) (by kernel_rfl) (by kernel_rfl) (by rfl) ?_ hH ?_
              rotate_left
              · intro W hW; (try dsimp only at hW); go_simp <;> with_reducible rfl
              simp only [Act.put, List.setIfInBounds_toArray, List.set_cons_zero, List.set_cons_succ]
              refine hTake (i := 2) (v := ?_) rfl (by kernel_rfl) (by kernel_rfl) (by kernel_rfl) (by rfl) ?_ hH ?_
              rotate_left
              · intro W hW; (try dsimp only at hW); go_simp <;> with_reducible rfl
              simp only [Act.put, List.setIfInBounds_toArray, List.set_cons_zero, List.set_cons_succ]
              refine hTake (i := 3) (v := ?_) rfl (by kernel_rfl) (by kernel_rfl) (by kernel_rfl) (by rfl) ?_ hH ?_
              rotate_left
              · intro W hW; (try dsimp only at hW); go_simp <;> with_reducible rfl
              simp only [Act.put, List.setIfInBounds_toArray, List.set_cons_zero, List.set_cons_succ]
              refine hTake (i := 4) (v := ?_) rfl (by kernel_rfl) (by kernel_rfl) (by kernel_rfl) (by rfl) ?_ hH ?_
              rotate_left
              · intro W hW; (try dsimp only at hW); go_simp <;> with_reducible rfl
              simp only [Act.put, List.setIfInBounds_toArray, List.set_cons_zero, List.set_cons_succ]
              refine hTake (i := 5) (v := ?_) rfl (by kernel_rfl) (by kernel_rfl) (by kernel_rfl) (by rfl) ?_ hH ?_
              rotate_left
              · intro W hW; (try dsimp only at hW); go_simp <;> with_reducible rfl
              simp only [Act.put, List.setIfInBounds_toArray, List.set_cons_zero, List.set_cons_succ]
              refine hTake (i := 6) (v := ?_) rfl (by kernel_rfl) (by kernel_rfl) (by kernel_rfl) (by rfl) ?_ hH ?_
              rotate_left
              · intro W hW; (try dsimp only at hW); go_simp <;> with_reducible rfl
              simp only [Act.put, List.setIfInBounds_toArray, List.set_cons_zero, List.set_cons_succ]
              refine hTake (i := 7) (v := ?_) rfl (by kernel_rfl) (by kernel_rfl) (by kernel_rfl) (by rfl) ?_ hH ?_
              rotate_left
              · intro W hW; (try dsimp only at hW); go_simp <;> with_reducible rfl
              simp only [Act.put, List.setIfInBounds_toArray, List.set_cons_zero, List.set_cons_succ]
              refine hTake (i := 8) (v := ?_) rfl (by kernel_rfl) (by kernel_rfl) (by kernel_rfl) (by rfl) ?_ hH ?_
              rotate_left
              · intro W hW; (try dsimp only at hW); go_simp <;> with_reducible rfl
              simp only [Act.put, List.setIfInBounds_toArray, List.set_cons_zero, List.set_cons_succ]
              refine hTake (i := 9) (v := ?_) rfl (by kernel_rfl) (by kernel_rfl) (by kernel_rfl) (by rfl) ?_ hH ?_
              rotate_left
              · intro W hW; (try dsimp only at hW); go_simp <;> with_reducible rfl
              simp only [Act.put, List.setIfInBounds_toArray, List.set_cons_zero, List.set_cons_succ]
              refine hTake (i := 10) (v := ?_) rfl (by kernel_rfl) (by kernel_rfl) (by kernel_rfl) (by rfl) ?_ hH ?_
              rotate_left
              · intro W hW; (try dsimp only at hW); go_simp <;> with_reducible rfl
              simp only [Act.put, List.setIfInBounds_toArray, List.set_cons_zero, List.set_cons_succ]
              refine hTake (i := 11) (v := ?_) rfl (by kernel_rfl) (by kernel_rfl) (by kernel_rfl) (by rfl) ?_ hH ?_
              rotate_left
              · intro W hW; (try dsimp only at hW); go_simp <;> with_reducible rfl
              simp only [Act.put, List.setIfInBounds_toArray, List.set_cons_zero, List.set_cons_succ]
              refine hTake (i := 12) (v := ?_) rfl (by kernel_rfl) (by kernel_rfl) (by kernel_rfl) (by rfl) ?_ hH ?_
              rotate_left
              · intro W hW; (try dsimp only at hW); go_simp <;> with_reducible rfl
              simp only [Act.put, List.setIfInBounds_toArray, List.set_cons_zero, List.set_cons_succ]
              refine hTake (i := 13) (v := ?_) rfl (by kernel_rfl) (by kernel_rfl) (by kernel_rfl) (by rfl) ?_ hH ?_
              rotate_left
              · intro W hW; (try dsimp only at hW); go_simp <;> with_reducible rfl
              simp only [Act.put, List.setIfInBounds_toArray, List.set_cons_zero, List.set_cons_succ]
              refine hTake (i := 14) (v := ?_) rfl (by kernel_rfl) (by kernel_rfl) (by kernel_rfl) (by rfl) ?_ hH ?_
              rotate_left
              · intro W hW; (try dsimp only at hW); go_simp <;> with_reducible rfl
              simp only [Act.put, List.setIfInBounds_toArray, List.set_cons_zero, List.set_cons_succ]
              refine hTake (i := 15) (v := ?_) rfl (by kernel_rfl) (by kernel_rfl) (by kernel_rfl) (by rfl) ?_ hH ?_
              rotate_left
              · intro W hW; (try dsimp only at hW); go_simp <;> with_reducible rfl
              simp only [Act.put, List.setIfInBounds_toArray, List.set_cons_zero, List.set_cons_succ]
              refine wpAnyH_done (by kernel_rfl) ?_ _
              refine NoPanic.normal ?_
              have b21 := hH.2.2.2.2.2.2.2.2.2
              clear hH
              go_wp2
              go_roundw
              case rel => exact ⟨k + 1, eb, by omega, by go_num, rfl, HE, hB.trans (b21.mono hB.size)⟩
              case measure => simp [intOf]; omega
            · clear HJ
              go_wp2
              refine wp_region_noPanic ?_
              refine wp_region_held_drew (S := fun W' => W'.cell? ⟨w1.heap.size, 0, none⟩ = some (.int .i64 rk) ∧ W'.cell? ⟨w1.heap.size, 1, none⟩ = some (.int .i64 rv) ∧ W'.cell? ⟨w1.heap.size, 2, none⟩ = some (.bool rg) ∧ W'.cell? ⟨w2.heap.size, 1, none⟩ = some (.slice (some ⟨bl, ql, none⟩) mr cr) ∧ W'.cell? ⟨w7.heap.size, 1, none⟩ = some (.int .i64 i) ∧ W'.cell? ⟨bl, ql + i, none⟩ = some (.slice (some ⟨br, qr, none⟩) N cl) ∧ W'.cell? ⟨br, qr + k * 3, none⟩ = some (.int .i64 sk) ∧ W'.cell? ⟨br, qr + k * 3 + 1, none⟩ = some (.int .i64 sv) ∧ W'.cell? ⟨br, qr + k * 3 + 2, none⟩ = some (.bool sg) ∧ Below wr.heap.size wr W') (by kernel_rfl) (⟨u0, u1, u2, v1, l1, g1, z0, z1, z2, (Below.refl _ _).drew⟩) (fun hH => ?_)
              refine hTake (i := 0) (v := ?_) rfl (by kernel_rfl) (by kernel_rfl) (by kernel_rfl) (by rfl) ?_ hH ?_
              rotate_left
              · intro W hW; (try dsimp only at hW); go_simp <;> with_reducible rfl
              simp only [Act.put, List.setIfInBounds_toArray, List.set_cons_zero, List.set_cons_succ]
              refine hTake (i := 1) (v := ?_) rfl (by kernel_rfl) (by kernel_rfl) (by kernel_rfl) (by rfl) ?_ hH ?_
              rotate_left
              · intro W hW; (try dsimp only at hW); go_simp <;> with_reducible rfl
              simp only [Act.put, List.setIfInBounds_toArray, List.set_cons_zero, List.set_cons_succ]
              refine hSkip (i := 2) rfl (by kernel_rfl) (by kernel_rfl) (by kernel_rfl) (by rfl) hH ?_
              simp only [Act.put, List.setIfInBounds_toArray, List.set_cons_zero, List.set_cons_succ]
              refine hSkip (i := 3) rfl (by kernel_rfl) (by kernel_rfl) (by kernel_rfl) (by rfl) hH ?_
              simp only [Act.put, List.setIfInBounds_toArray, List.set_cons_zero, List.set_cons_succ]
              refine hSkip (i := 4) rfl (by kernel_rfl) (by kernel_rfl) (by kernel_rfl) (by rfl) hH ?_
              simp only [Act.put, List.setIfInBounds_toArray, List.set_cons_zero, List.set_cons_succ]
              refine hSkip (i := 5) rfl (by kernel_rfl) (by kernel_rfl) (by kernel_rfl) (by rfl) hH ?_
              simp only [Act.put, List.setIfInBounds_toArray, List.set_cons_zero, List.set_cons_succ]
              refine hSkip (i := 6) rfl (by kernel_rfl) (by kernel_rfl) (by kernel_rfl) (by rfl) hH ?_
              simp only [Act.put, List.setIfInBounds_toArray, List.set_cons_zero, List.set_cons_succ]
              refine hSkip (i := 7) rfl (by kernel_rfl) (by kernel_rfl) (by kernel_rfl) (by rfl) hH ?_
              simp only [Act.put, List.setIfInBounds_toArray, List.set_cons_zero, List.set_cons_succ]
              refine hSkip (i := 8) rfl (by kernel_rfl) (by kernel_rfl) (by kernel_rfl) (by rfl) hH ?_
              simp only [Act.put, List.setIfInBounds_toArray, List.set_cons_zero, List.set_cons_succ]
              refine hSkip (i := 9) rfl (by kernel_rfl) (by kernel_rfl) (by kernel_rfl) (by rfl) hH ?_
              simp only [Act.put, List.setIfInBounds_toArray, List.set_cons_zero, List.set_cons_succ]
              refine hSkip (i := 10) rfl (by kernel_rfl) (by kernel_rfl) (by kernel_rfl) (by rfl) hH ?_
              simp only [Act.put, List.setIfInBounds_toArray, List.set_cons_zero, List.set_cons_succ]
              refine hSkip (i := 11) rfl (by kernel_rfl) (by kernel_rfl) (by kernel_rfl) (by rfl) hH ?_
              simp only [Act.put, List.setIfInBounds_toArray, List.set_cons_zero, List.set_cons_succ]
              refine hSkip (i := 12) rfl (by kernel_rfl) (by kernel_rfl) (by kernel_rfl) (by rfl) hH ?_
              simp only [Act.put, List.setIfInBounds_toArray, List.set_cons_zero, List.set_cons_succ]
              refine hSkip (i := 13) rfl (by kernel_rfl) (by kernel_rfl) (by kernel_rfl) (by rfl) hH ?_
              simp only [Act.put, List.setIfInBounds_toArray, List.set_cons_zero, List.set_cons_succ]
              refine hTake (i := 14) (v := ?_) rfl (by kernel_rfl) (by kernel_rfl) (by kernel_rfl) (by rfl) ?_ hH ?_
              rotate_left
              · intro W hW; (try dsimp only at hW); go_simp <;> with_reducible rfl
              simp only [Act.put, List.setIfInBounds_toArray, List.set_cons_zero, List.set_cons_succ]
              refine hTake (i := 15) (v := ?_) rfl (by kernel_rfl) (by kernel_rfl) (by kernel_rfl) (by rfl) ?_ hH ?_
              rotate_left
              · intro W hW; (try dsimp only at hW); go_simp <;> with_reducible rfl
              simp only [Act.put, List.setIfInBounds_toArray, List.set_cons_zero, List.set_cons_succ]
              refine wpAnyH_done (by kernel_rfl) ?_ _
              refine NoPanic.normal ?_
              have b21 := hH.2.2.2.2.2.2.2.2.2
              clear hH
              go_wp2
              go_roundw
              case rel => exact ⟨k + 1, true, by omega, by go_num, rfl, fun _ => rfl, hB.trans (b21.mono hB.size)⟩
              case measure => simp [intOf]; omega
          · obtain rfl : k = N := by omega
            obtain rfl : qb = true := HQ.out hjN
            have l0 := keep_cell hB l0
            have d1 := keep_cell hB d1
            have odl := odl.below hB
            have bE := bE.trans (hB.mono bE.size)
            go_wp2_with fail
            refine (implLeavesOk ad md cd dl _ (odl.at hda) hds hdg).mono ?_
            rintro e w10 ⟨rfl, b10⟩
            go_wp2
            go_ret
            exact ⟨rfl, bE.trans (b10.mono bE.size)⟩
  · have hpp : (pc == pc) = true := by simp
    go_wp2
    refine wp_region_noPanic ?_
    refine wp_region_held_drew (S := fun W' => W'.cell? ⟨w1.heap.size, 0, none⟩ = some (.int .i64 rk) ∧ W'.cell? ⟨w1.heap.size, 1, none⟩ = some (.int .i64 rv) ∧ W'.cell? ⟨w1.heap.size, 2, none⟩ = some (.bool rg) ∧ W'.cell? ⟨w2.heap.size, 0, none⟩ = some (.int .i64 pc) ∧ Below w2.heap.size w2 W') (by kernel_rfl) (⟨keep_cell (bA2 _) x0, keep_cell (bA2 _) x1, keep_cell (bA2 _) x2, by simp [go_sem], (bA2 _).drew⟩) (fun hH => ?_)
    refine hTake (i := 0) (v := ?_) rfl (by kernel_rfl) (by kernel_rfl) (by kernel_rfl) (by rfl) ?_ hH ?_
    rotate_left
    · intro W hW; (try dsimp only at hW); go_simp <;> with_reducible rfl
    simp only [Act.put, List.setIfInBounds_toArray, List.set_cons_zero, List.set_cons_succ]
    refine hTake (i := 1) (v := ?_) rfl (by kernel_rfl) (by kernel_rfl) (by kernel_rfl) (by rfl) ?_ hH ?_
    rotate_left
    · intro W hW; (try dsimp only at hW); go_simp <;> with_reducible rfl
    simp only [Act.put, List.setIfInBounds_toArray, List.set_cons_zero, List.set_cons_succ]
    refine hTake (i := 4) (v := ?_) rfl (by kernel_rfl) (by kernel_rfl) (by kernel_rfl) (by rfl) ?_ hH ?_
    rotate_left
    · intro W hW; (try dsimp only at hW); go_simp <;> with_reducible rfl
    simp only [Act.put, List.setIfInBounds_toArray, List.set_cons_zero, List.set_cons_succ]
    refine hTake (i := 5) (v := ?_) rfl (by kernel_rfl) (by kernel_rfl) (by kernel_rfl) (by rfl) ?_ hH ?_
    rotate_left
    · intro W hW; (try dsimp only at hW); go_simp <;> with_reducible rfl
    simp only [Act.put, List.setIfInBounds_toArray, List.set_cons_zero, List.set_cons_succ]
    refine wpAnyH_ready (rs := [2]) (by kernel_rfl) (by simp) ?_
    refine AllReadyH.cons rfl (fun K hK => ?_) AllReadyH.nil
    go_simp
    refine (specPut_is a1 n1 c1 ls rk rv rg _ ((o1.below hH.2.2.2.2).at hsa) hs hR).mono ?_
    rintro e w3 ⟨a3, m3, c3, rfl, o3, b3⟩
    have hfd := fun W => fieldLv pc a3 m3 c3 W
    go_wp2_with fail
    refine hK.out _ _ ?_ (fun hH => ?_)
    · exact ⟨keep_cell b3 hH.1, keep_cell b3 hH.2.1, keep_cell b3 hH.2.2.1, keep_cell b3 hH.2.2.2.1, hH.2.2.2.2.trans (b3.mono hH.2.2.2.2.size)⟩
    clear hK K
    refine hTake (i := 3) (v := ?_) rfl (by kernel_rfl) (by kernel_rfl) (by kernel_rfl) (by rfl) ?_ hH ?_
    rotate_left
    · intro W hW; (try dsimp only at hW); go_simp <;> with_reducible rfl
    simp only [Act.put, List.setIfInBounds_toArray, List.set_cons_zero, List.set_cons_succ]
    refine hTake (i := 6) (v := ?_) rfl (by kernel_rfl) (by kernel_rfl) (by kernel_rfl) (by rfl) ?_ hH ?_
    rotate_left
    · intro W hW; (try dsimp only at hW); go_simp <;> with_reducible rfl
    simp only [Act.put, List.setIfInBounds_toArray, List.set_cons_zero, List.set_cons_succ]
    refine hTake (i := 7) (v := ?_) rfl (by kernel_rfl) (by kernel_rfl) (by kernel_rfl) (by rfl) ?_ hH ?_
    rotate_left
    · intro W hW; (try dsimp only at hW); go_simp <;> with_reducible rfl
    simp only [Act.put, List.setIfInBounds_toArray, List.set_cons_zero, List.set_cons_succ]
    refine wpAnyH_done (by kernel_rfl) ?_ _
    refine NoPanic.normal ?_
    have b6 := hH.2.2.2.2
    clear hH
    go_wp2
    go_ret
    exact ⟨rfl, bE.trans (b6.mono bE.size)⟩
end Go.Proofs.Ytofhkncdjjlllaa
