/- OpText of the program. -/
import Derived.Test.YtalhmogaogaekaaDoorOtH
namespace Go.Proofs.YtalhmogaogaekaaDoor
open Go.RowKit Go.Shelf

/-- The fields of a form, as the table has them. -/
def formSl (h : Nat) (K : Nat) : Value :=
  if K = 1 then .slice (some ⟨h + 1, 0, none⟩) 1 1 else if K = 2 then .slice (some ⟨h + 2, 0, none⟩) 2 2 else if K = 3 then .slice (some ⟨h + 3, 0, none⟩) 1 1 else if K = 4 then .slice (some ⟨h + 4, 0, none⟩) 2 2 else if K = 5 then .slice (some ⟨h + 5, 0, none⟩) 1 1 else if K = 8 then .slice (some ⟨h + 6, 0, none⟩) 1 1 else .slice none 0 0
def formFs (K : Nat) : List Nat := if K = 1 then [0] else if K = 2 then [0, 2] else if K = 3 then [0] else if K = 4 then [0, 1] else if K = 5 then [2] else if K = 8 then [0] else []
theorem index_form (K h : Nat) (W : World) (h1 : 1 ≤ K) (h2 : K ≤ 10) : (Instr.index 46 (.agg (formCells h)) (.int .i64 K)).run Tryd.prog W = .ok (.agg #[.string (Ch.opName K), formSl h K]) W := by
  have : K = 1 ∨ K = 2 ∨ K = 3 ∨ K = 4 ∨ K = 5 ∨ K = 6 ∨ K = 7 ∨ K = 8 ∨ K = 9 ∨ K = 10 := by omega
  rcases this with rfl | rfl | rfl | rfl | rfl | rfl | rfl | rfl | rfl | rfl
  · exact (show (Instr.index 46 (.agg (formCells h)) (.int .i64 (1 : Nat))).run Tryd.prog W = .ok (.agg #[.string (Ch.opName (1 : Nat)), formSl h 1]) W by kernel_rfl)
  · exact (show (Instr.index 46 (.agg (formCells h)) (.int .i64 (2 : Nat))).run Tryd.prog W = .ok (.agg #[.string (Ch.opName (2 : Nat)), formSl h 2]) W by kernel_rfl)
  · exact (show (Instr.index 46 (.agg (formCells h)) (.int .i64 (3 : Nat))).run Tryd.prog W = .ok (.agg #[.string (Ch.opName (3 : Nat)), formSl h 3]) W by kernel_rfl)
  · exact (show (Instr.index 46 (.agg (formCells h)) (.int .i64 (4 : Nat))).run Tryd.prog W = .ok (.agg #[.string (Ch.opName (4 : Nat)), formSl h 4]) W by kernel_rfl)
  · exact (show (Instr.index 46 (.agg (formCells h)) (.int .i64 (5 : Nat))).run Tryd.prog W = .ok (.agg #[.string (Ch.opName (5 : Nat)), formSl h 5]) W by kernel_rfl)
  · exact (show (Instr.index 46 (.agg (formCells h)) (.int .i64 (6 : Nat))).run Tryd.prog W = .ok (.agg #[.string (Ch.opName (6 : Nat)), formSl h 6]) W by kernel_rfl)
  · exact (show (Instr.index 46 (.agg (formCells h)) (.int .i64 (7 : Nat))).run Tryd.prog W = .ok (.agg #[.string (Ch.opName (7 : Nat)), formSl h 7]) W by kernel_rfl)
  · exact (show (Instr.index 46 (.agg (formCells h)) (.int .i64 (8 : Nat))).run Tryd.prog W = .ok (.agg #[.string (Ch.opName (8 : Nat)), formSl h 8]) W by kernel_rfl)
  · exact (show (Instr.index 46 (.agg (formCells h)) (.int .i64 (9 : Nat))).run Tryd.prog W = .ok (.agg #[.string (Ch.opName (9 : Nat)), formSl h 9]) W by kernel_rfl)
  · exact (show (Instr.index 46 (.agg (formCells h)) (.int .i64 (10 : Nat))).run Tryd.prog W = .ok (.agg #[.string (Ch.opName (10 : Nat)), formSl h 10]) W by kernel_rfl)
theorem cells_one {W : World} {g : Nat} {t : TypeId} {f : Nat} (h : W.heap[g]? = some (.cells #[.int .i64 (f : Int)] t (0, 0))) : CellsAt W (some ⟨g, 0, none⟩) (1 * 1) (ncells [f]) := by
  refine ⟨rfl, fun _ => ⟨g, 0, rfl, fun i hi => ?_⟩⟩
  obtain rfl : i = 0 := by omega
  simp [World.cell?, h, ncells, icells]
theorem cells_two {W : World} {g : Nat} {t : TypeId} {f f' : Nat} (h : W.heap[g]? = some (.cells #[.int .i64 (f : Int), .int .i64 (f' : Int)] t (0, 0))) : CellsAt W (some ⟨g, 0, none⟩) (2 * 1) (ncells [f, f']) := by
  refine ⟨rfl, fun _ => ⟨g, 0, rfl, fun i hi => ?_⟩⟩
  have : i = 0 ∨ i = 1 := by omega
  rcases this with rfl | rfl <;> simp [World.cell?, h, ncells, icells]
/-- Where a form's fields lie. -/
def FsAt (W : World) (v : Value) (K : Nat) : Prop := ∃ A n, v = .slice A n n ∧ n ≤ 2 ∧ CellsAt W A (n * 1) (ncells (formFs K))
theorem FsAt.below {W V : World} {v : Value} {K : Nat} (h : FsAt W v K) (hb : Below W.heap.size W V) : FsAt V v K := by
  obtain ⟨A, n, h1, h2, h3⟩ := h
  exact ⟨A, n, h1, h2, h3.below hb⟩
theorem form_at {W : World} {h : Nat} (K : Nat) (h1 : 1 ≤ K) (h2 : K ≤ 10) (H : FormAt W h) : FsAt W (formSl h K) K := by
  obtain ⟨F0, F1, F2, F3, F4, F5⟩ := H
  have nn : CellsAt W none (0 * 1) (ncells []) := ⟨rfl, fun h => absurd h (by omega)⟩
  have : K = 1 ∨ K = 2 ∨ K = 3 ∨ K = 4 ∨ K = 5 ∨ K = 6 ∨ K = 7 ∨ K = 8 ∨ K = 9 ∨ K = 10 := by omega
  rcases this with rfl | rfl | rfl | rfl | rfl | rfl | rfl | rfl | rfl | rfl
  · exact ⟨_, 1, rfl, by omega, cells_one (f := 0) F0⟩
  · exact ⟨_, 2, rfl, by omega, cells_two (f := 0) (f' := 2) F1⟩
  · exact ⟨_, 1, rfl, by omega, cells_one (f := 0) F2⟩
  · exact ⟨_, 2, rfl, by omega, cells_two (f := 0) (f' := 1) F3⟩
  · exact ⟨_, 1, rfl, by omega, cells_one (f := 2) F4⟩
  · exact ⟨_, 0, rfl, by omega, nn⟩
  · exact ⟨_, 0, rfl, by omega, nn⟩
  · exact ⟨_, 1, rfl, by omega, cells_one (f := 0) F5⟩
  · exact ⟨_, 0, rfl, by omega, nn⟩
  · exact ⟨_, 0, rfl, by omega, nn⟩
theorem formFs_le (K : Nat) : ∀ i, (formFs K).getD i 0 ≤ 2 := by
  intro i
  unfold formFs
  repeat' split
  all_goals
    rcases i with _ | _ | i <;> simp [List.getD]
theorem formFs_is (K x y z : Nat) (h1 : 1 ≤ K) (h2 : K ≤ 10) : (formFs K).map (fun f => Ch.at3 f x y z) = Ch.opFields K x y z := by
  have : K = 1 ∨ K = 2 ∨ K = 3 ∨ K = 4 ∨ K = 5 ∨ K = 6 ∨ K = 7 ∨ K = 8 ∨ K = 9 ∨ K = 10 := by omega
  rcases this with rfl | rfl | rfl | rfl | rfl | rfl | rfl | rfl | rfl | rfl <;> rfl

set_option linter.unusedSimpArgs false in
set_option maxRecDepth 20000 in
set_option maxHeartbeats 4000000 in
theorem implOpText_ok (K x y z : Nat) (w : World) (hK1 : 1 ≤ K) (hK2 : K ≤ 10) (hx : x ≤ 99) (hy : y ≤ 99) (hz : z ≤ 9999) (hF : Ch.opFault K x y z = 0) (ht : Tab w) :
    Calls Tryd.prog 7 #[.agg #[.int .i64 K, .int .i64 x, .int .i64 y, .int .i64 z]] w fun e w' => e = .returned (.agg #[.int .i64 0, .string (Ch.opText K x y z)]) ∧ Below w.heap.size w w' := by
  have hK11 : (K : Int) < 11 := by omega
  have OF := fun W => implOp_any K x y z W
  rw [hF] at OF
  have hmf : ∀ (fn : Fn) (first cap : Array Value) (w : World), (Instr.makeFunc fn first cap).run Tryd.prog w = .ok (.func fn first cap) w := fun _ _ _ _ => rfl
  have HT : Hid (Ch.opText K x y z = Ch.line (Ch.opName K) ((formFs K).map fun f => Ch.at3 f x y z)) := by show _ = _; rw [formFs_is K x y z hK1 hK2]; rfl
  rw [HT.out]
  clear hF HT
  have hbo : ((w.alloc (.cells #[.int .i64 K, .int .i64 x, .int .i64 y, .int .i64 z] 27)).alloc (.cells #[.int .i64 0, .string ⟨#[]⟩] 25)).heap[w.heap.size]? = some (.cells #[.int .i64 K, .int .i64 x, .int .i64 y, .int .i64 z] 27 (0, 0)) := (heap_old' (by simp)).trans (heap_alloc_new w _)
  have hbr : ((w.alloc (.cells #[.int .i64 K, .int .i64 x, .int .i64 y, .int .i64 z] 27)).alloc (.cells #[.int .i64 0, .string ⟨#[]⟩] 25)).heap[w.heap.size + 1]? = some (.cells #[.int .i64 0, .string ⟨#[]⟩] 25 (0, 0)) := by
    have := heap_alloc_new (w.alloc (.cells #[.int .i64 K, .int .i64 x, .int .i64 y, .int .i64 z] 27)) (.cells #[.int .i64 0, .string ⟨#[]⟩] 25)
    rw [show (w.alloc (.cells #[.int .i64 K, .int .i64 x, .int .i64 y, .int .i64 z] 27)).heap.size = w.heap.size + 1 by simp] at this
    exact this
  have b0 : Below w.heap.size w ((w.alloc (.cells #[.int .i64 K, .int .i64 x, .int .i64 y, .int .i64 z] 27)).alloc (.cells #[.int .i64 0, .string ⟨#[]⟩] 25)) := ((Below.refl _ _).alloc (Nat.le_refl _) _).alloc (by simp) _
  go_enter Tryd.func7, Tryd.ntmps7
  go_wp2_with fail
  refine (OF _).mono ?_
  rintro e w1 ⟨rfl, b1⟩
  have hO := block_belowW b1 hbo
  have hR := block_belowW b1 hbr
  have b1' := b0.trans (b1.mono b0.size)
  obtain ⟨x0, x1, x2, x3⟩ := row4 hO
  have lo := lt_of_cell x0
  clear hbo hbr b0 b1 OF
  go_wp2_with fail
  go_cut [4] (fun s wx => ∃ gf SL, s = .pointer (some ⟨gf, 0, none⟩) ∧ wx.heap[gf]? = some (.cells #[.string (Ch.opName K), SL] 45 (0, 0)) ∧ FsAt wx SL K ∧ w1.heap.size ≤ gf ∧ Below w1.heap.size w1 wx)
  case first =>
    refine wp_region_noPanic ?_
    refine wp_region_held_drew (S := fun W' => W'.cell? ⟨w.heap.size, 0, none⟩ = some (.int .i64 K) ∧ w.heap.size < W'.heap.size ∧ Below w1.heap.size w1 W') (by kernel_rfl) (⟨x0, lo, (Below.refl _ _).trans ⟨rfl, rfl, rfl, Nat.le_refl _, fun _ _ => rfl⟩⟩) (fun hH => ?_)
    refine hTake (i := 1) (v := ?_) rfl (by kernel_rfl) (by kernel_rfl) (by kernel_rfl) (by rfl) ?_ hH ?_
    rotate_left
    · intro W hW; (try dsimp only at hW); go_simp <;> with_reducible rfl
    simp only [Act.put, List.setIfInBounds_toArray, List.set_cons_zero, List.set_cons_succ]
    refine hTake (i := 2) (v := ?_) rfl (by kernel_rfl) (by kernel_rfl) (by kernel_rfl) (by rfl) ?_ hH ?_
    rotate_left
    · intro W hW; (try dsimp only at hW); go_simp <;> with_reducible rfl
    simp only [Act.put, List.setIfInBounds_toArray, List.set_cons_zero, List.set_cons_succ]
    refine wpAnyH_ready (rs := [0, 4]) (by kernel_rfl) (by simp) ?_
    refine AllReadyH.cons rfl (fun K' hK' => ?_) (AllReadyH.cons rfl (fun K' hK' => ?_) AllReadyH.nil)
    focus
      go_simp
      refine (forms_any _).mono ?_
      rintro e w3 ⟨rfl, hF3, b3⟩
      have hF3 : FormAt w3 w1.heap.size := hF3
      have IX := fun W => index_form K w1.heap.size W hK1 hK2
      have FS := form_at K hK1 hK2 hF3
      go_wp2_with fail
      refine hK'.out _ _ ?_ (fun hH => ?_)
      · exact ⟨keep_cell b3 hH.1, Nat.lt_of_lt_of_le hH.2.1 b3.size, hH.2.2.trans (b3.mono hH.2.2.size)⟩
      clear hK' K'
      generalize formCells w1.heap.size = FC at *
      generalize formSl w1.heap.size K = SL at *
      refine hTake (i := 3) (v := ?_) rfl (by kernel_rfl) (by kernel_rfl) (by kernel_rfl) (by rfl) ?_ hH ?_
      rotate_left
      · intro W hW; (try dsimp only at hW); go_simp <;> with_reducible rfl
      simp only [Act.put, List.setIfInBounds_toArray, List.set_cons_zero, List.set_cons_succ]
      refine wpAnyH_ready (rs := [4]) (by kernel_rfl) (by simp) ?_
      refine AllReadyH.cons rfl (fun K hK => ?_) AllReadyH.nil
      go_simp
      refine hK.out _ _ ?_ (fun hH => ?_)
      · exact ⟨keep_cell ((Below.refl _ _).alloc (Nat.le_refl _) _) hH.1, by have := hH.2.1; simp; omega, hH.2.2.alloc hH.2.2.size _⟩
      clear hK K
      have hb4 := heap_alloc_new w3 (.cells #[.string ⟨#[]⟩, .slice none 0 0] 45)
      obtain ⟨r0, r1, f0, f1⟩ := row2 hb4
      have FS4 := FS.below ((Below.refl w3.heap.size w3).alloc (o := .cells #[.string (Ch.opName K), SL] 45) (Nat.le_refl _))
      have hb5 := heap_alloc_new w3 (.cells #[.string (Ch.opName K), SL] 45)
      have bS : Below w1.heap.size w1 (w3.alloc (.cells #[.string (Ch.opName K), SL] 45)) := by
        have h1 : Below w1.heap.size w1 w3 := (show Below w1.heap.size w1 w1.drew from ⟨rfl, rfl, rfl, Nat.le_refl _, fun _ _ => rfl⟩).trans b3
        exact h1.alloc h1.size _
      have bz : w1.heap.size ≤ w3.heap.size := b3.size
      obtain ⟨AS, nS, hS, _, _⟩ := FS
      subst hS
      refine wpAnyH_ready (rs := [5]) (by kernel_rfl) (by simp) ?_
      refine AllReadyH.cons rfl (fun K hK => ?_) AllReadyH.nil
      go_simp
      refine hK.out _ _ ?_ (fun hH => ?_)
      · exact ⟨keep_cell bS x0, Nat.lt_of_lt_of_le lo bS.size, bS⟩
      clear hK K
      refine wpAnyH_done (by kernel_rfl) ?_ _
      refine NoPanic.normal ?_
      go_wp2_with fail
      go_meet
      exact ⟨w3.heap.size, .slice AS nS nS, rfl, hb5, FS4, bz, bS⟩
    focus
      go_simp
      refine hK'.out _ _ ?_ (fun hH => ?_)
      · exact ⟨keep_cell ((Below.refl _ _).alloc (Nat.le_refl _) _) hH.1, by have := hH.2.1; simp; omega, hH.2.2.alloc hH.2.2.size _⟩
      clear hK' K'
      refine wpAnyH_ready (rs := [0]) (by kernel_rfl) (by simp) ?_
      refine AllReadyH.cons rfl (fun K' hK' => ?_) AllReadyH.nil
      go_simp
      refine (forms_any _).mono ?_
      rintro e w3 ⟨rfl, hF3, b3⟩
      have hhl : w1.heap.size < (w1.alloc (.cells #[.string ⟨#[]⟩, .slice none 0 0] 45)).drew.heap.size := by simp
      have hbx : w3.heap[w1.heap.size]? = some (.cells #[.string ⟨#[]⟩, .slice none 0 0] 45 (0, 0)) := (b3.block _ hhl).trans (heap_alloc_new w1 _)
      have bV3 : Below w1.heap.size w1 w3 := (((Below.refl w1.heap.size w1).alloc (Nat.le_refl _) _).drew).trans (b3.mono (Nat.le_of_lt hhl))
      clear b3
      generalize (w1.alloc (.cells #[.string ⟨#[]⟩, .slice none 0 0] 45)).drew.heap.size = hh at *
      have IX := fun W => index_form K hh W hK1 hK2
      obtain ⟨AS, nS, hS, _, _⟩ := form_at K hK1 hK2 hF3
      have hF5 : FormAt ((w3.setCell ⟨w1.heap.size, 0, none⟩ (.string (Ch.opName K))).setCell ⟨w1.heap.size, 1, none⟩ (formSl hh K)) hh := by
        obtain ⟨F0, F1, F2, F3, F4, F5⟩ := hF3
        have ho : ∀ j o, 1 ≤ j → w3.heap[hh + j]? = some o → ((w3.setCell ⟨w1.heap.size, 0, none⟩ (.string (Ch.opName K))).setCell ⟨w1.heap.size, 1, none⟩ (formSl hh K)).heap[hh + j]? = some o := fun j o hj h =>
          (Below.heap_setCell _ _ _ _ (by show hh + j ≠ w1.heap.size; omega)).trans ((Below.heap_setCell _ _ _ _ (by show hh + j ≠ w1.heap.size; omega)).trans h)
        exact ⟨ho 1 _ (by omega) F0, ho 2 _ (by omega) F1, ho 3 _ (by omega) F2, ho 4 _ (by omega) F3, ho 5 _ (by omega) F4, ho 6 _ (by omega) F5⟩
      have FS5 := form_at K hK1 hK2 hF5
      clear hF5 hF3
      generalize formSl hh K = SL at *
      subst hS
      go_wp2_with fail
      refine hK'.out _ _ ?_ (fun hH => ?_)
      · exact ⟨keep_cell bV3 x0, Nat.lt_of_lt_of_le lo bV3.size, bV3⟩
      clear hK' K'
      generalize formCells hh = FC at *
      refine hTake (i := 3) (v := ?_) rfl (by kernel_rfl) (by kernel_rfl) (by kernel_rfl) (by rfl) ?_ hH ?_
      rotate_left
      · intro W hW; (try dsimp only at hW); go_simp <;> with_reducible rfl
      simp only [Act.put, List.setIfInBounds_toArray, List.set_cons_zero, List.set_cons_succ]
      obtain ⟨r0, r1, f0, f1⟩ := row2 hbx
      have lr := lt_of_cell r0
      have hb5 := box_set2 hbx (.string (Ch.opName K)) (.slice AS nS nS)
      have bS := (bV3.setCell (p := ⟨w1.heap.size, 0, none⟩) (Nat.le_refl _) (.string (Ch.opName K))).setCell (p := ⟨w1.heap.size, 1, none⟩) (Nat.le_refl _) (.slice AS nS nS)
      refine wpAnyH_ready (rs := [5]) (by kernel_rfl) (by simp) ?_
      refine AllReadyH.cons rfl (fun K hK => ?_) AllReadyH.nil
      go_simp
      refine hK.out _ _ ?_ (fun hH => ?_)
      · exact ⟨keep_cell bS x0, Nat.lt_of_lt_of_le lo bS.size, bS⟩
      clear hK K
      refine wpAnyH_done (by kernel_rfl) ?_ _
      refine NoPanic.normal ?_
      go_wp2_with fail
      go_meet
      exact ⟨w1.heap.size, .slice AS nS nS, rfl, hb5, FS5, Nat.le_refl _, bS⟩
  case rest =>
    obtain ⟨gf, SL, rfl, hbf, FS, hgf, bX⟩ := hcut
    obtain ⟨AS, nS, rfl, hnS, hcS⟩ := FS
    have hO2 := block_belowW bX hO
    have hR2 := block_belowW bX hR
    have b2 := b1'.trans (bX.mono b1'.size)
    have htx := ht.below b2
    obtain ⟨q0, q1, p0, p1⟩ := row2 hbf
    have lq := lt_of_cell q0
    have TL := tell_any (Ch.opName K) AS nS nS w.heap.size x y z (.int .i64 K) (formFs K) wc hcS hnS (formFs_le K) (Ch.opName_size K) hO2 (by omega) (by omega) hz htx
    go_wp2_with fail
    refine TL.mono ?_
    rintro e w5 ⟨rfl, b5⟩
    have hR5 := block_belowW b5 hR2
    obtain ⟨r0, r1, f0, f1⟩ := row2 hR5
    have lr := lt_of_cell r0
    have b5' := b2.trans (b5.mono b2.size)
    have hR9 := box_set2 hR5 (.int .i64 0) (.string (Ch.line (Ch.opName K) ((formFs K).map fun f => Ch.at3 f x y z)))
    obtain ⟨t0, t1, _, _⟩ := row2 hR9
    go_wp2
    exact bodyPost_ret (v := .agg #[.int .i64 0, .string (Ch.line (Ch.opName K) ((formFs K).map fun f => Ch.at3 f x y z))]) (by simp [results, Tryd.results7, go_sem, t0, t1]) rfl ⟨rfl, (b5'.setCell (p := ⟨w.heap.size + 1, 0, none⟩) (by show w.heap.size ≤ w.heap.size + 1; omega) _).setCell (p := ⟨w.heap.size + 1, 1, none⟩) (by show w.heap.size ≤ w.heap.size + 1; omega) _⟩
end Go.Proofs.YtalhmogaogaekaaDoor
