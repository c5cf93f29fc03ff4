/- Several texts in one: IxK, IxO, IxV. -/
import Derived.Test.YthfanfnbjldddaaGreatMz5
import Derived.Test.YthfanfnbjldddaaGreatIxG
import Derived.Test.YthfanfnbjldddaaGreatMz4
import Derived.Test.YthfanfnbjldddaaGreatAppX
import Derived.Test.YthfanfnbjldddaaGreatMz7


/- LookIndex of the program and of the model. -/
namespace Go.Proofs.YthfanfnbjldddaaGreat
open Go.RowKit

theorem new_int (w : World) (r : Int) (t : TypeId) : CellsAt (w.alloc (.cells #[.int .i64 r] t)) (some ⟨w.heap.size, 0, none⟩) (1 * 1) (icells [r]) := by
  refine ⟨rfl, fun _ => ⟨_, _, rfl, fun i hi => ?_⟩⟩
  rw [Nat.zero_add]
  have := cell_of_row (w.alloc (.cells #[.int .i64 r] t)) _ i _ _ _ (heap_alloc_new w _)
  rw [this]
  simp [icells]
theorem own_empty (w : World) (B : Nat) (e : TypeId) (size : Nat) (hB : B ≤ w.heap.size) : (w.alloc (.cells #[] e)).ownsRow B e size (.slice (some ⟨w.heap.size, 0, none⟩) 0 0) 0 [] :=
  World.ownsRow_lit w #[] 0 hB (by unfold maxLen; omega) (by simp)

end Go.Proofs.YthfanfnbjldddaaGreat


/- The model's l9Put: a pair in its place. -/
namespace Go.Proofs.YthfanfnbjldddaaGreat
open Go.RowKit

theorem new_empty (V : World) (e : TypeId) (size : Nat) : (V.alloc (.cells #[] e)).ownsRow V.heap.size e size (.slice (some ⟨V.heap.size, 0, none⟩) 0 0) 0 [] := own_empty V _ e size (Nat.le_refl _)
/-- What l9Put answers. -/
def PutP (B n : Nat) (es : List Ch.Hold) (t m : Int) (w : World) (e : Ending) (w' : World) : Prop :=
  ∃ g' n' c', e = .returned (.slice (some ⟨g', 0, none⟩) n' c') ∧ w'.ownsRow B 55 2 (.slice (some ⟨g', 0, none⟩) n' c') n' (hcells (Ch.insP es ⟨t, m⟩)) ∧ n' ≤ n + 1 ∧ Below w.heap.size w w'

set_option linter.unusedSimpArgs false in
set_option maxRecDepth 20000 in
set_option maxHeartbeats 8000000 in
theorem l9Put_any (B g n c : Nat) (es : List Ch.Hold) (t m : Int) (w : World) (own : w.ownsRow B 55 2 (.slice (some ⟨g, 0, none⟩) n c) n (hcells es)) (hn : n ≤ 1048576) (hB : B ≤ w.heap.size) :
    Calls Tryz.prog 54 #[.slice (some ⟨g, 0, none⟩) n c, .agg #[.int .i64 t, .int .i64 m]] w fun e w' => PutP B n es t m w e w' := by
  have h4 := owns_cells own
  have HL := h4.hlen
  have hcap := owns_cap own
  have hgl := (owns_lt own g rfl).2
  obtain ⟨j0, gi0, gz0, gz1, gz2⟩ := info_parts Tryz.info55
  have kA : Below w.heap.size w (w.alloc (.cells #[.int .i64 t, .int .i64 m] 55)) := (Below.refl _ _).alloc (Nat.le_refl _) _
  obtain ⟨y0, y1, _, _⟩ := row2 (heap_alloc_new w (.cells #[.int .i64 t, .int .i64 m] 55))
  have yl := lt_of_cell y0
  go_enter Tryz.func54, Tryz.ntmps54
  go_wp2
  go_loopw [5] (fun i wr => ∃ k : Nat, k ≤ n ∧ i = .int .i64 k ∧ Hid (∀ j, j < k → Ch.ltE (es.getD j Ch.Hold.zero) ⟨t, m⟩ = true) ∧ wr.cell? ⟨w.heap.size, 0, none⟩ = some (.int .i64 t) ∧ wr.cell? ⟨w.heap.size, 1, none⟩ = some (.int .i64 m) ∧ w.heap.size < wr.heap.size ∧ Below w.heap.size w wr) (fun i _ => n - (intOf i).toNat)
  case atStart => exact ⟨0, Nat.zero_le _, rfl, (fun j hj => by omega), y0, y1, yl, kA⟩
  case round =>
    clear y0 y1 yl kA
    obtain ⟨k, hk, rfl, HA, z0, z1, ll, hW⟩ := hrel
    by_cases hlt : k < n
    · have hkl : k < es.length := by have := HL.out; omega
      have HS := hid (fun he => Ch.step_all (p := fun j => Ch.ltE (es.getD j Ch.Hold.zero) ⟨t, m⟩) HA.out he)
      have HE := hid (fun he => Ch.insP_at (l := es) (e := ⟨t, m⟩) (k := k) (by omega) HA.out (fun _ => he))
      obtain ⟨b, off, hbo, q0, q1⟩ := (h4.below hW).hold hlt
      simp only [Option.some.injEq, Addr.mk.injEq, and_true] at hbo
      obtain ⟨rfl, rfl⟩ := hbo
      rw [Nat.zero_add] at q0 q1
      have hqb := lt_of_cell q0
      generalize es.getD k Ch.Hold.zero = r at *
      obtain ⟨rt, rm⟩ := r
      simp only at q0 q1
      have IC := fun W => behind_any rt rm t m W
      have hd0 : (k : Int) < (n : Int) := by omega
      cases hl : Ch.ltE ⟨rt, rm⟩ ⟨t, m⟩
      rotate_left
      · rw [hl] at IC
        replace HS := hid (HS.out hl)
        clear HE hl
        go_wp2_with fail
        refine wp_region_noPanic ?_
        refine wp_region_held_drew (S := fun W' => W'.cell? ⟨w.heap.size, 0, none⟩ = some (.int .i64 t) ∧ W'.cell? ⟨w.heap.size, 1, none⟩ = some (.int .i64 m) ∧ W'.cell? ⟨g, k * 2, none⟩ = some (.int .i64 rt) ∧ W'.cell? ⟨g, k * 2 + 1, none⟩ = some (.int .i64 rm) ∧ w.heap.size < W'.heap.size ∧ Below w.heap.size w W') (by kernel_rfl) (⟨z0, z1, q0, q1, ll, hW.drew⟩) (fun hH => ?_)
        refine hTake (i := 0) (v := ?_) rfl (by kernel_rfl) (by kernel_rfl) (by kernel_rfl) (by rfl) ?_ hH ?_
        rotate_left
        · intro W hW; (try dsimp only at hW); go_simp <;> with_reducible rfl
        simp only [Act.put, List.setIfInBounds_toArray, List.set_cons_zero, List.set_cons_succ]
        refine hTake (i := 1) (v := ?_) rfl (by kernel_rfl) (by kernel_rfl) (by kernel_rfl) (by rfl) ?_ hH ?_
        rotate_left
        · intro W hW; (try dsimp only at hW); go_simp <;> with_reducible rfl
        simp only [Act.put, List.setIfInBounds_toArray, List.set_cons_zero, List.set_cons_succ]
        refine hTake (i := 2) (v := ?_) rfl (by kernel_rfl) (by kernel_rfl) (by kernel_rfl) (by rfl) ?_ hH ?_
        rotate_left
        · intro W hW; (try dsimp only at hW); go_simp <;> with_reducible rfl
        simp only [Act.put, List.setIfInBounds_toArray, List.set_cons_zero, List.set_cons_succ]
        refine hTake (i := 3) (v := ?_) rfl (by kernel_rfl) (by kernel_rfl) (by kernel_rfl) (by rfl) ?_ hH ?_
        rotate_left
        · intro W hW; (try dsimp only at hW); go_simp <;> with_reducible rfl
        simp only [Act.put, List.setIfInBounds_toArray, List.set_cons_zero, List.set_cons_succ]
        refine hTake (i := 4) (v := ?_) rfl (by kernel_rfl) (by kernel_rfl) (by kernel_rfl) (by rfl) ?_ hH ?_
        rotate_left
        · intro W hW; (try dsimp only at hW); go_simp <;> with_reducible rfl
        simp only [Act.put, List.setIfInBounds_toArray, List.set_cons_zero, List.set_cons_succ]
        refine hTake (i := 5) (v := ?_) rfl (by kernel_rfl) (by kernel_rfl) (by kernel_rfl) (by rfl) ?_ hH ?_
        rotate_left
        · intro W hW; (try dsimp only at hW); go_simp <;> with_reducible rfl
        simp only [Act.put, List.setIfInBounds_toArray, List.set_cons_zero, List.set_cons_succ]
        refine hTake (i := 6) (v := ?_) rfl (by kernel_rfl) (by kernel_rfl) (by kernel_rfl) (by rfl) ?_ hH ?_
        rotate_left
        · intro W hW; (try dsimp only at hW); go_simp <;> with_reducible rfl
        simp only [Act.put, List.setIfInBounds_toArray, List.set_cons_zero, List.set_cons_succ]
        refine hTake (i := 7) (v := ?_) rfl (by kernel_rfl) (by kernel_rfl) (by kernel_rfl) (by rfl) ?_ hH ?_
        rotate_left
        · intro W hW; (try dsimp only at hW); go_simp <;> with_reducible rfl
        simp only [Act.put, List.setIfInBounds_toArray, List.set_cons_zero, List.set_cons_succ]
        refine hTake (i := 8) (v := ?_) rfl (by kernel_rfl) (by kernel_rfl) (by kernel_rfl) (by rfl) ?_ hH ?_
        rotate_left
        · intro W hW; (try dsimp only at hW); go_simp <;> with_reducible rfl
        simp only [Act.put, List.setIfInBounds_toArray, List.set_cons_zero, List.set_cons_succ]
        refine hTake (i := 9) (v := ?_) rfl (by kernel_rfl) (by kernel_rfl) (by kernel_rfl) (by rfl) ?_ hH ?_
        rotate_left
        · intro W hW; (try dsimp only at hW); go_simp <;> with_reducible rfl
        simp only [Act.put, List.setIfInBounds_toArray, List.set_cons_zero, List.set_cons_succ]
        refine wpAnyH_ready (rs := [10]) (by kernel_rfl) (by simp) ?_
        refine AllReadyH.cons rfl (fun K hK => ?_) AllReadyH.nil
        go_simp
        refine (IC _).mono ?_
        rintro e w9 ⟨rfl, b9⟩
        refine hK.out _ _ ?_ (fun hH => ?_)
        · exact ⟨keep_cell b9 hH.1, keep_cell b9 hH.2.1, keep_cell b9 hH.2.2.1, keep_cell b9 hH.2.2.2.1, Nat.lt_of_lt_of_le hH.2.2.2.2.1 b9.size, hH.2.2.2.2.2.trans (b9.mono hH.2.2.2.2.2.size)⟩
        clear hK K
        refine hTake (i := 11) (v := ?_) rfl (by kernel_rfl) (by kernel_rfl) (by kernel_rfl) (by rfl) ?_ hH ?_
        rotate_left
        · intro W hW; (try dsimp only at hW); go_simp <;> with_reducible rfl
        simp only [Act.put, List.setIfInBounds_toArray, List.set_cons_zero, List.set_cons_succ]
        refine wpAnyH_done (by kernel_rfl) ?_ _
        refine NoPanic.normal ?_
        go_wp2
        go_roundw
        case rel => exact ⟨k + 1, by omega, by go_num, HS.out, hH.1, hH.2.1, hH.2.2.2.2.1, hH.2.2.2.2.2⟩
        case measure => simp [intOf]; omega
      · rw [hl] at IC
        have HI := hid (HE.out hl)
        clear HS HE hl
        go_wp2_with fail
        refine wp_region_noPanic ?_
        refine wp_region_held_drew (S := fun W' => W'.cell? ⟨w.heap.size, 0, none⟩ = some (.int .i64 t) ∧ W'.cell? ⟨w.heap.size, 1, none⟩ = some (.int .i64 m) ∧ W'.cell? ⟨g, k * 2, none⟩ = some (.int .i64 rt) ∧ W'.cell? ⟨g, k * 2 + 1, none⟩ = some (.int .i64 rm) ∧ w.heap.size < W'.heap.size ∧ Below w.heap.size w W') (by kernel_rfl) (⟨z0, z1, q0, q1, ll, hW.drew⟩) (fun hH => ?_)
        refine hTake (i := 0) (v := ?_) rfl (by kernel_rfl) (by kernel_rfl) (by kernel_rfl) (by rfl) ?_ hH ?_
        rotate_left
        · intro W hW; (try dsimp only at hW); go_simp <;> with_reducible rfl
        simp only [Act.put, List.setIfInBounds_toArray, List.set_cons_zero, List.set_cons_succ]
        refine hTake (i := 1) (v := ?_) rfl (by kernel_rfl) (by kernel_rfl) (by kernel_rfl) (by rfl) ?_ hH ?_
        rotate_left
        · intro W hW; (try dsimp only at hW); go_simp <;> with_reducible rfl
        simp only [Act.put, List.setIfInBounds_toArray, List.set_cons_zero, List.set_cons_succ]
        refine hTake (i := 2) (v := ?_) rfl (by kernel_rfl) (by kernel_rfl) (by kernel_rfl) (by rfl) ?_ hH ?_
        rotate_left
        · intro W hW; (try dsimp only at hW); go_simp <;> with_reducible rfl
        simp only [Act.put, List.setIfInBounds_toArray, List.set_cons_zero, List.set_cons_succ]
        refine hTake (i := 3) (v := ?_) rfl (by kernel_rfl) (by kernel_rfl) (by kernel_rfl) (by rfl) ?_ hH ?_
        rotate_left
        · intro W hW; (try dsimp only at hW); go_simp <;> with_reducible rfl
        simp only [Act.put, List.setIfInBounds_toArray, List.set_cons_zero, List.set_cons_succ]
        refine hTake (i := 4) (v := ?_) rfl (by kernel_rfl) (by kernel_rfl) (by kernel_rfl) (by rfl) ?_ hH ?_
        rotate_left
        · intro W hW; (try dsimp only at hW); go_simp <;> with_reducible rfl
        simp only [Act.put, List.setIfInBounds_toArray, List.set_cons_zero, List.set_cons_succ]
        refine hTake (i := 5) (v := ?_) rfl (by kernel_rfl) (by kernel_rfl) (by kernel_rfl) (by rfl) ?_ hH ?_
        rotate_left
        · intro W hW; (try dsimp only at hW); go_simp <;> with_reducible rfl
        simp only [Act.put, List.setIfInBounds_toArray, List.set_cons_zero, List.set_cons_succ]
        refine hTake (i := 6) (v := ?_) rfl (by kernel_rfl) (by kernel_rfl) (by kernel_rfl) (by rfl) ?_ hH ?_
        rotate_left
        · intro W hW; (try dsimp only at hW); go_simp <;> with_reducible rfl
        simp only [Act.put, List.setIfInBounds_toArray, List.set_cons_zero, List.set_cons_succ]
        refine hTake (i := 7) (v := ?_) rfl (by kernel_rfl) (by kernel_rfl) (by kernel_rfl) (by rfl) ?_ hH ?_
        rotate_left
        · intro W hW; (try dsimp only at hW); go_simp <;> with_reducible rfl
        simp only [Act.put, List.setIfInBounds_toArray, List.set_cons_zero, List.set_cons_succ]
        refine hTake (i := 8) (v := ?_) rfl (by kernel_rfl) (by kernel_rfl) (by kernel_rfl) (by rfl) ?_ hH ?_
        rotate_left
        · intro W hW; (try dsimp only at hW); go_simp <;> with_reducible rfl
        simp only [Act.put, List.setIfInBounds_toArray, List.set_cons_zero, List.set_cons_succ]
        refine hTake (i := 9) (v := ?_) rfl (by kernel_rfl) (by kernel_rfl) (by kernel_rfl) (by rfl) ?_ hH ?_
        rotate_left
        · intro W hW; (try dsimp only at hW); go_simp <;> with_reducible rfl
        simp only [Act.put, List.setIfInBounds_toArray, List.set_cons_zero, List.set_cons_succ]
        refine wpAnyH_ready (rs := [10]) (by kernel_rfl) (by simp) ?_
        refine AllReadyH.cons rfl (fun K hK => ?_) AllReadyH.nil
        go_simp
        refine (IC _).mono ?_
        rintro e w9 ⟨rfl, b9⟩
        refine hK.out _ _ ?_ (fun hH => ?_)
        · exact ⟨keep_cell b9 hH.1, keep_cell b9 hH.2.1, keep_cell b9 hH.2.2.1, keep_cell b9 hH.2.2.2.1, Nat.lt_of_lt_of_le hH.2.2.2.2.1 b9.size, hH.2.2.2.2.2.trans (b9.mono hH.2.2.2.2.2.size)⟩
        clear hK K
        refine hTake (i := 11) (v := ?_) rfl (by kernel_rfl) (by kernel_rfl) (by kernel_rfl) (by rfl) ?_ hH ?_
        rotate_left
        · intro W hW; (try dsimp only at hW); go_simp <;> with_reducible rfl
        simp only [Act.put, List.setIfInBounds_toArray, List.set_cons_zero, List.set_cons_succ]
        refine wpAnyH_done (by kernel_rfl) ?_ _
        refine NoPanic.normal ?_
        clear z0 z1 q0 q1 hW ll
        go_wp2_with fail
        have hkc : k ≤ c := by omega
        have hck2 : ¬ c = k := by omega
        have H1a : ∀ u ∈ (hcells es).take (k * 2), u.oneCell' = true := fun u hu => hcells_one' es u (List.mem_of_mem_take hu)
        have H1b : ∀ u ∈ (hcells es).drop (k * 2), u.oneCell' = true := fun u hu => hcells_one' es u (List.mem_of_mem_drop hu)
        have hCa := cut_take h4 (k := k * 2) (by omega)
        have hCb : CellsAt w (some ⟨g, k * 2, none⟩) ((n - k) * 2) ((hcells es).drop (k * 2)) := by have := cut_drop h4 (k := k * 2) (by omega); rw [Nat.zero_add, ← Nat.sub_mul] at this; exact this
        refine wp_region_noPanic ?_
        refine wp_region_held_drew (S := fun W' => W'.cell? ⟨w.heap.size, 0, none⟩ = some (.int .i64 t) ∧ W'.cell? ⟨w.heap.size, 1, none⟩ = some (.int .i64 m) ∧ W'.cell? ⟨g, k * 2, none⟩ = some (.int .i64 rt) ∧ W'.cell? ⟨g, k * 2 + 1, none⟩ = some (.int .i64 rm) ∧ w.heap.size < W'.heap.size ∧ Below w.heap.size w W') (by kernel_rfl) (⟨hH.1, hH.2.1, hH.2.2.1, hH.2.2.2.1, hH.2.2.2.2.1, hH.2.2.2.2.2.drew⟩) (fun hH => ?_)
        generalize w9.drew = wq at *
        refine hTake (i := 1) (v := ?_) rfl (by kernel_rfl) (by kernel_rfl) (by kernel_rfl) (by rfl) ?_ hH ?_
        rotate_left
        · intro W hW; (try dsimp only at hW); go_simp <;> with_reducible rfl
        simp only [Act.put, List.setIfInBounds_toArray, List.set_cons_zero, List.set_cons_succ]
        refine hTake (i := 2) (v := ?_) rfl (by kernel_rfl) (by kernel_rfl) (by kernel_rfl) (by rfl) ?_ hH ?_
        rotate_left
        · intro W hW; (try dsimp only at hW); go_simp <;> with_reducible rfl
        simp only [Act.put, List.setIfInBounds_toArray, List.set_cons_zero, List.set_cons_succ]
        refine hTake (i := 3) (v := ?_) rfl (by kernel_rfl) (by kernel_rfl) (by kernel_rfl) (by rfl) ?_ hH ?_
        rotate_left
        · intro W hW; (try dsimp only at hW); go_simp <;> with_reducible rfl
        simp only [Act.put, List.setIfInBounds_toArray, List.set_cons_zero, List.set_cons_succ]
        refine hTake (i := 5) (v := ?_) rfl (by kernel_rfl) (by kernel_rfl) (by kernel_rfl) (by rfl) ?_ hH ?_
        rotate_left
        · intro W hW; (try dsimp only at hW); go_simp <;> with_reducible rfl
        simp only [Act.put, List.setIfInBounds_toArray, List.set_cons_zero, List.set_cons_succ]
        refine hTake (i := 8) (v := ?_) rfl (by kernel_rfl) (by kernel_rfl) (by kernel_rfl) (by rfl) ?_ hH ?_
        rotate_left
        · intro W hW; (try dsimp only at hW); go_simp <;> with_reducible rfl
        simp only [Act.put, List.setIfInBounds_toArray, List.set_cons_zero, List.set_cons_succ]
        refine hTake (i := 9) (v := ?_) rfl (by kernel_rfl) (by kernel_rfl) (by kernel_rfl) (by rfl) ?_ hH ?_
        rotate_left
        · intro W hW; (try dsimp only at hW); go_simp <;> with_reducible rfl
        simp only [Act.put, List.setIfInBounds_toArray, List.set_cons_zero, List.set_cons_succ]
        refine hTake (i := 10) (v := ?_) rfl (by kernel_rfl) (by kernel_rfl) (by kernel_rfl) (by rfl) ?_ hH ?_
        rotate_left
        · intro W hW; (try dsimp only at hW); go_simp <;> with_reducible rfl
        simp only [Act.put, List.setIfInBounds_toArray, List.set_cons_zero, List.set_cons_succ]
        refine wpAnyH_ready (rs := [0, 6]) (by kernel_rfl) (by simp) ?_
        refine AllReadyH.cons rfl (fun K hK => ?_) (AllReadyH.cons rfl (fun K hK => ?_) AllReadyH.nil)
        · have oE := owns_base (base' := w.heap.size + 1) (new_empty wq 55 2) (by have := hH.2.2.2.2.1; omega)
          have kE : Below wq.heap.size wq (wq.alloc (.cells #[] 55)) := (Below.refl _ _).alloc (Nat.le_refl _) _
          go_simp
          refine hK.out _ _ ⟨keep_cell kE hH.1, keep_cell kE hH.2.1, keep_cell kE hH.2.2.1, keep_cell kE hH.2.2.2.1, Nat.lt_of_lt_of_le hH.2.2.2.2.1 kE.size, hH.2.2.2.2.2.trans (kE.mono hH.2.2.2.2.2.size)⟩ (fun hH => ?_)
          clear hK K
          clear kE
          refine wpAnyH_ready (rs := [4, 6]) (by kernel_rfl) (by simp) ?_
          refine AllReadyH.cons rfl (fun K hK => ?_) (AllReadyH.cons rfl (fun K hK => ?_) AllReadyH.nil)
          · have hCx := hCa.below hH.2.2.2.2.2
            refine step_appX Tryz.underlying27 Tryz.underlying27 gi0 gz0 gz1 gz2 rfl (by omega) (by omega) (.tmp 20) (.tmp 23) rfl rfl (w.heap.size + 1) (.slice (some ⟨wq.heap.size, 0, none⟩) 0 0) 0 [] (some ⟨g, 0, none⟩) k c ((hcells es).take (k * 2)) rfl rfl oE hCx H1a (by omega) (by omega) ?_
            intro a5 c5 w5 own5 gr5 at5
            simp only [Nat.zero_add, List.nil_append] at own5 at5 ⊢
            refine hK.out _ _ ⟨grown_cell gr5 hH.1 (fun e => by have := (owns_lt oE _ e).1; omega), grown_cell gr5 hH.2.1 (fun e => by have := (owns_lt oE _ e).1; omega), grown_cell gr5 hH.2.2.1 (fun e => by have := (owns_lt oE _ e).1; omega), grown_cell gr5 hH.2.2.2.1 (fun e => by have := (owns_lt oE _ e).1; omega), Nat.lt_of_lt_of_le hH.2.2.2.2.1 gr5.size, hH.2.2.2.2.2.grown gr5 hH.2.2.2.2.2.size (fun g hg => by have := (owns_lt oE g hg).1; omega)⟩ (fun hH => ?_)
            clear hK K gr5 at5 oE hCx
            simp only [Act.put, List.setIfInBounds_toArray, List.set_cons_zero, List.set_cons_succ]
            refine wpAnyH_ready (rs := [6]) (by kernel_rfl) (by simp) ?_
            refine AllReadyH.cons rfl (fun K hK => ?_) AllReadyH.nil
            · have kN : Below w5.heap.size w5 (w5.alloc (.cells #[.int .i64 t, .int .i64 m] 55)) := (Below.refl _ _).alloc (Nat.le_refl _) _
              have hCN := new_hold w5 t m 55
              go_simp
              refine hK.out _ _ ⟨keep_cell kN hH.1, keep_cell kN hH.2.1, keep_cell kN hH.2.2.1, keep_cell kN hH.2.2.2.1, Nat.lt_of_lt_of_le hH.2.2.2.2.1 kN.size, hH.2.2.2.2.2.trans (kN.mono hH.2.2.2.2.2.size)⟩ (fun hH => ?_)
              clear hK K
              replace own5 := owns_below own5 kN
              clear kN
              refine wpAnyH_ready (rs := [7]) (by kernel_rfl) (by simp) ?_
              refine AllReadyH.cons rfl (fun K hK => ?_) AllReadyH.nil
              · refine step_appX Tryz.underlying27 Tryz.underlying27 gi0 gz0 gz1 gz2 rfl (by omega) (by omega) (.tmp 24) (.tmp 26) rfl rfl (w.heap.size + 1) (.slice a5 k c5) k ((hcells es).take (k * 2)) _ 1 1 (hcells [⟨t, m⟩]) rfl rfl own5 hCN (hcells_one' _) (by omega) (by omega) ?_
                intro a7 c7 w7 own7 gr7 at7
                refine hK.out _ _ ⟨grown_cell gr7 hH.1 (fun e => by have := (owns_lt own5 _ e).1; omega), grown_cell gr7 hH.2.1 (fun e => by have := (owns_lt own5 _ e).1; omega), grown_cell gr7 hH.2.2.1 (fun e => by have := (owns_lt own5 _ e).1; omega), grown_cell gr7 hH.2.2.2.1 (fun e => by have := (owns_lt own5 _ e).1; omega), Nat.lt_of_lt_of_le hH.2.2.2.2.1 gr7.size, hH.2.2.2.2.2.grown gr7 hH.2.2.2.2.2.size (fun g hg => by have := (owns_lt own5 g hg).1; omega)⟩ (fun hH => ?_)
                clear hK K gr7 at7 own5 hCN
                simp only [Act.put, List.setIfInBounds_toArray, List.set_cons_zero, List.set_cons_succ]
                have hCd := hCb.below hH.2.2.2.2.2
                refine wpAnyH_ready (rs := [11]) (by kernel_rfl) (by simp) ?_
                refine AllReadyH.cons rfl (fun K hK => ?_) AllReadyH.nil
                refine step_appX Tryz.underlying27 Tryz.underlying27 gi0 gz0 gz1 gz2 rfl (by omega) (by omega) (.tmp 27) (.tmp 30) rfl rfl (w.heap.size + 1) (.slice a7 (k + 1) c7) (k + 1) _ (some ⟨g, k * 2, none⟩) (n - k) (c - k) ((hcells es).drop (k * 2)) rfl rfl own7 hCd H1b (by omega) (by omega) ?_
                intro a8 c8 w8 own8 gr8 at8
                refine hK.out _ _ ⟨grown_cell gr8 hH.1 (fun e => by have := (owns_lt own7 _ e).1; omega), grown_cell gr8 hH.2.1 (fun e => by have := (owns_lt own7 _ e).1; omega), grown_cell gr8 hH.2.2.1 (fun e => by have := (owns_lt own7 _ e).1; omega), grown_cell gr8 hH.2.2.2.1 (fun e => by have := (owns_lt own7 _ e).1; omega), Nat.lt_of_lt_of_le hH.2.2.2.2.1 gr8.size, hH.2.2.2.2.2.grown gr8 hH.2.2.2.2.2.size (fun g hg => by have := (owns_lt own7 g hg).1; omega)⟩ (fun hH => ?_)
                clear hK K gr8 at8 own7 hCd
                simp only [Act.put, List.setIfInBounds_toArray, List.set_cons_zero, List.set_cons_succ]
                refine hTake (i := 12) (v := ?_) rfl (by kernel_rfl) (by kernel_rfl) (by kernel_rfl) (by rfl) ?_ hH ?_
                rotate_left
                · intro W hW; (try dsimp only at hW); go_simp <;> with_reducible rfl
                simp only [Act.put, List.setIfInBounds_toArray, List.set_cons_zero, List.set_cons_succ]
                refine wpAnyH_done (by kernel_rfl) ?_ _
                refine NoPanic.normal ?_
                have en : k + 1 + (n - k) = n + 1 := by omega
                simp only [en] at own8 ⊢
                rw [← hcells_take, ← hcut_drop es k (by have := HL.out; omega), ← hcells_append, ← hcells_append] at own8
                rw [← HI.out] at own8
                obtain ⟨g8, rfl⟩ := own_at own8 (by omega)
                have O8 := hid (owns_base (base' := B) own8 (by omega))
                have k8 := hid hH.2.2.2.2.2
                clear own8 hH
                go_wp2
                exact bodyPost_ret (v := .slice (some ⟨g8, 0, none⟩) (n + 1) c8) (by simp [results, Tryz.results54, go_sem]) rfl ⟨g8, n + 1, c8, rfl, O8.out, by omega, k8.out⟩
          · have kN : Below (wq.alloc (.cells #[] 55)).heap.size (wq.alloc (.cells #[] 55)) ((wq.alloc (.cells #[] 55)).alloc (.cells #[.int .i64 t, .int .i64 m] 55)) := (Below.refl _ _).alloc (Nat.le_refl _) _
            have hCN := new_hold (wq.alloc (.cells #[] 55)) t m 55
            rw [show (wq.alloc (.cells #[] 55)).heap.size = wq.heap.size + 1 by simp] at hCN
            go_simp
            refine hK.out _ _ ⟨keep_cell kN hH.1, keep_cell kN hH.2.1, keep_cell kN hH.2.2.1, keep_cell kN hH.2.2.2.1, Nat.lt_of_lt_of_le hH.2.2.2.2.1 kN.size, hH.2.2.2.2.2.trans (kN.mono hH.2.2.2.2.2.size)⟩ (fun hH => ?_)
            clear hK K
            replace oE := owns_below oE kN
            clear kN
            refine wpAnyH_ready (rs := [4]) (by kernel_rfl) (by simp) ?_
            refine AllReadyH.cons rfl (fun K hK => ?_) AllReadyH.nil
            · have hCx := hCa.below hH.2.2.2.2.2
              refine step_appX Tryz.underlying27 Tryz.underlying27 gi0 gz0 gz1 gz2 rfl (by omega) (by omega) (.tmp 20) (.tmp 23) rfl rfl (w.heap.size + 1) (.slice (some ⟨wq.heap.size, 0, none⟩) 0 0) 0 [] (some ⟨g, 0, none⟩) k c ((hcells es).take (k * 2)) rfl rfl oE hCx H1a (by omega) (by omega) ?_
              intro a5 c5 w5 own5 gr5 at5
              simp only [Nat.zero_add, List.nil_append] at own5 at5 ⊢
              replace hCN := cells_grown hCN gr5 (fun b off ha e => by cases ha; simp [Value.ownBlock] at e)
              refine hK.out _ _ ⟨grown_cell gr5 hH.1 (fun e => by have := (owns_lt oE _ e).1; omega), grown_cell gr5 hH.2.1 (fun e => by have := (owns_lt oE _ e).1; omega), grown_cell gr5 hH.2.2.1 (fun e => by have := (owns_lt oE _ e).1; omega), grown_cell gr5 hH.2.2.2.1 (fun e => by have := (owns_lt oE _ e).1; omega), Nat.lt_of_lt_of_le hH.2.2.2.2.1 gr5.size, hH.2.2.2.2.2.grown gr5 hH.2.2.2.2.2.size (fun g hg => by have := (owns_lt oE g hg).1; omega)⟩ (fun hH => ?_)
              clear hK K gr5 at5 oE hCx
              simp only [Act.put, List.setIfInBounds_toArray, List.set_cons_zero, List.set_cons_succ]
              refine wpAnyH_ready (rs := [7]) (by kernel_rfl) (by simp) ?_
              refine AllReadyH.cons rfl (fun K hK => ?_) AllReadyH.nil
              · refine step_appX Tryz.underlying27 Tryz.underlying27 gi0 gz0 gz1 gz2 rfl (by omega) (by omega) (.tmp 24) (.tmp 26) rfl rfl (w.heap.size + 1) (.slice a5 k c5) k ((hcells es).take (k * 2)) _ 1 1 (hcells [⟨t, m⟩]) rfl rfl own5 hCN (hcells_one' _) (by omega) (by omega) ?_
                intro a7 c7 w7 own7 gr7 at7
                refine hK.out _ _ ⟨grown_cell gr7 hH.1 (fun e => by have := (owns_lt own5 _ e).1; omega), grown_cell gr7 hH.2.1 (fun e => by have := (owns_lt own5 _ e).1; omega), grown_cell gr7 hH.2.2.1 (fun e => by have := (owns_lt own5 _ e).1; omega), grown_cell gr7 hH.2.2.2.1 (fun e => by have := (owns_lt own5 _ e).1; omega), Nat.lt_of_lt_of_le hH.2.2.2.2.1 gr7.size, hH.2.2.2.2.2.grown gr7 hH.2.2.2.2.2.size (fun g hg => by have := (owns_lt own5 g hg).1; omega)⟩ (fun hH => ?_)
                clear hK K gr7 at7 own5 hCN
                simp only [Act.put, List.setIfInBounds_toArray, List.set_cons_zero, List.set_cons_succ]
                have hCd := hCb.below hH.2.2.2.2.2
                refine wpAnyH_ready (rs := [11]) (by kernel_rfl) (by simp) ?_
                refine AllReadyH.cons rfl (fun K hK => ?_) AllReadyH.nil
                refine step_appX Tryz.underlying27 Tryz.underlying27 gi0 gz0 gz1 gz2 rfl (by omega) (by omega) (.tmp 27) (.tmp 30) rfl rfl (w.heap.size + 1) (.slice a7 (k + 1) c7) (k + 1) _ (some ⟨g, k * 2, none⟩) (n - k) (c - k) ((hcells es).drop (k * 2)) rfl rfl own7 hCd H1b (by omega) (by omega) ?_
                intro a8 c8 w8 own8 gr8 at8
                refine hK.out _ _ ⟨grown_cell gr8 hH.1 (fun e => by have := (owns_lt own7 _ e).1; omega), grown_cell gr8 hH.2.1 (fun e => by have := (owns_lt own7 _ e).1; omega), grown_cell gr8 hH.2.2.1 (fun e => by have := (owns_lt own7 _ e).1; omega), grown_cell gr8 hH.2.2.2.1 (fun e => by have := (owns_lt own7 _ e).1; omega), Nat.lt_of_lt_of_le hH.2.2.2.2.1 gr8.size, hH.2.2.2.2.2.grown gr8 hH.2.2.2.2.2.size (fun g hg => by have := (owns_lt own7 g hg).1; omega)⟩ (fun hH => ?_)
                clear hK K gr8 at8 own7 hCd
                simp only [Act.put, List.setIfInBounds_toArray, List.set_cons_zero, List.set_cons_succ]
                refine hTake (i := 12) (v := ?_) rfl (by kernel_rfl) (by kernel_rfl) (by kernel_rfl) (by rfl) ?_ hH ?_
                rotate_left
                · intro W hW; (try dsimp only at hW); go_simp <;> with_reducible rfl
                simp only [Act.put, List.setIfInBounds_toArray, List.set_cons_zero, List.set_cons_succ]
                refine wpAnyH_done (by kernel_rfl) ?_ _
                refine NoPanic.normal ?_
                have en : k + 1 + (n - k) = n + 1 := by omega
                simp only [en] at own8 ⊢
                rw [← hcells_take, ← hcut_drop es k (by have := HL.out; omega), ← hcells_append, ← hcells_append] at own8
                rw [← HI.out] at own8
                obtain ⟨g8, rfl⟩ := own_at own8 (by omega)
                have O8 := hid (owns_base (base' := B) own8 (by omega))
                have k8 := hid hH.2.2.2.2.2
                clear own8 hH
                go_wp2
                exact bodyPost_ret (v := .slice (some ⟨g8, 0, none⟩) (n + 1) c8) (by simp [results, Tryz.results54, go_sem]) rfl ⟨g8, n + 1, c8, rfl, O8.out, by omega, k8.out⟩
        · have kN : Below wq.heap.size wq (wq.alloc (.cells #[.int .i64 t, .int .i64 m] 55)) := (Below.refl _ _).alloc (Nat.le_refl _) _
          have hCN := new_hold wq t m 55
          go_simp
          refine hK.out _ _ ⟨keep_cell kN hH.1, keep_cell kN hH.2.1, keep_cell kN hH.2.2.1, keep_cell kN hH.2.2.2.1, Nat.lt_of_lt_of_le hH.2.2.2.2.1 kN.size, hH.2.2.2.2.2.trans (kN.mono hH.2.2.2.2.2.size)⟩ (fun hH => ?_)
          clear hK K
          clear kN
          refine wpAnyH_ready (rs := [0]) (by kernel_rfl) (by simp) ?_
          refine AllReadyH.cons rfl (fun K hK => ?_) AllReadyH.nil
          · have oE := owns_base (base' := w.heap.size + 1) (new_empty (wq.alloc (.cells #[.int .i64 t, .int .i64 m] 55)) 55 2) (by have := hH.2.2.2.2.1; omega)
            have kE : Below (wq.alloc (.cells #[.int .i64 t, .int .i64 m] 55)).heap.size (wq.alloc (.cells #[.int .i64 t, .int .i64 m] 55)) ((wq.alloc (.cells #[.int .i64 t, .int .i64 m] 55)).alloc (.cells #[] 55)) := (Below.refl _ _).alloc (Nat.le_refl _) _
            rw [show (wq.alloc (.cells #[.int .i64 t, .int .i64 m] 55)).heap.size = wq.heap.size + 1 by simp] at oE
            go_simp
            refine hK.out _ _ ⟨keep_cell kE hH.1, keep_cell kE hH.2.1, keep_cell kE hH.2.2.1, keep_cell kE hH.2.2.2.1, Nat.lt_of_lt_of_le hH.2.2.2.2.1 kE.size, hH.2.2.2.2.2.trans (kE.mono hH.2.2.2.2.2.size)⟩ (fun hH => ?_)
            clear hK K
            replace hCN := hCN.below kE
            clear kE
            refine wpAnyH_ready (rs := [4]) (by kernel_rfl) (by simp) ?_
            refine AllReadyH.cons rfl (fun K hK => ?_) AllReadyH.nil
            · have hCx := hCa.below hH.2.2.2.2.2
              refine step_appX Tryz.underlying27 Tryz.underlying27 gi0 gz0 gz1 gz2 rfl (by omega) (by omega) (.tmp 20) (.tmp 23) rfl rfl (w.heap.size + 1) (.slice (some ⟨wq.heap.size + 1, 0, none⟩) 0 0) 0 [] (some ⟨g, 0, none⟩) k c ((hcells es).take (k * 2)) rfl rfl oE hCx H1a (by omega) (by omega) ?_
              intro a5 c5 w5 own5 gr5 at5
              simp only [Nat.zero_add, List.nil_append] at own5 at5 ⊢
              replace hCN := cells_grown hCN gr5 (fun b off ha e => by cases ha; simp [Value.ownBlock] at e)
              refine hK.out _ _ ⟨grown_cell gr5 hH.1 (fun e => by have := (owns_lt oE _ e).1; omega), grown_cell gr5 hH.2.1 (fun e => by have := (owns_lt oE _ e).1; omega), grown_cell gr5 hH.2.2.1 (fun e => by have := (owns_lt oE _ e).1; omega), grown_cell gr5 hH.2.2.2.1 (fun e => by have := (owns_lt oE _ e).1; omega), Nat.lt_of_lt_of_le hH.2.2.2.2.1 gr5.size, hH.2.2.2.2.2.grown gr5 hH.2.2.2.2.2.size (fun g hg => by have := (owns_lt oE g hg).1; omega)⟩ (fun hH => ?_)
              clear hK K gr5 at5 oE hCx
              simp only [Act.put, List.setIfInBounds_toArray, List.set_cons_zero, List.set_cons_succ]
              refine wpAnyH_ready (rs := [7]) (by kernel_rfl) (by simp) ?_
              refine AllReadyH.cons rfl (fun K hK => ?_) AllReadyH.nil
              · refine step_appX Tryz.underlying27 Tryz.underlying27 gi0 gz0 gz1 gz2 rfl (by omega) (by omega) (.tmp 24) (.tmp 26) rfl rfl (w.heap.size + 1) (.slice a5 k c5) k ((hcells es).take (k * 2)) _ 1 1 (hcells [⟨t, m⟩]) rfl rfl own5 hCN (hcells_one' _) (by omega) (by omega) ?_
                intro a7 c7 w7 own7 gr7 at7
                refine hK.out _ _ ⟨grown_cell gr7 hH.1 (fun e => by have := (owns_lt own5 _ e).1; omega), grown_cell gr7 hH.2.1 (fun e => by have := (owns_lt own5 _ e).1; omega), grown_cell gr7 hH.2.2.1 (fun e => by have := (owns_lt own5 _ e).1; omega), grown_cell gr7 hH.2.2.2.1 (fun e => by have := (owns_lt own5 _ e).1; omega), Nat.lt_of_lt_of_le hH.2.2.2.2.1 gr7.size, hH.2.2.2.2.2.grown gr7 hH.2.2.2.2.2.size (fun g hg => by have := (owns_lt own5 g hg).1; omega)⟩ (fun hH => ?_)
                clear hK K gr7 at7 own5 hCN
                simp only [Act.put, List.setIfInBounds_toArray, List.set_cons_zero, List.set_cons_succ]
                have hCd := hCb.below hH.2.2.2.2.2
                refine wpAnyH_ready (rs := [11]) (by kernel_rfl) (by simp) ?_
                refine AllReadyH.cons rfl (fun K hK => ?_) AllReadyH.nil
                refine step_appX Tryz.underlying27 Tryz.underlying27 gi0 gz0 gz1 gz2 rfl (by omega) (by omega) (.tmp 27) (.tmp 30) rfl rfl (w.heap.size + 1) (.slice a7 (k + 1) c7) (k + 1) _ (some ⟨g, k * 2, none⟩) (n - k) (c - k) ((hcells es).drop (k * 2)) rfl rfl own7 hCd H1b (by omega) (by omega) ?_
                intro a8 c8 w8 own8 gr8 at8
                refine hK.out _ _ ⟨grown_cell gr8 hH.1 (fun e => by have := (owns_lt own7 _ e).1; omega), grown_cell gr8 hH.2.1 (fun e => by have := (owns_lt own7 _ e).1; omega), grown_cell gr8 hH.2.2.1 (fun e => by have := (owns_lt own7 _ e).1; omega), grown_cell gr8 hH.2.2.2.1 (fun e => by have := (owns_lt own7 _ e).1; omega), Nat.lt_of_lt_of_le hH.2.2.2.2.1 gr8.size, hH.2.2.2.2.2.grown gr8 hH.2.2.2.2.2.size (fun g hg => by have := (owns_lt own7 g hg).1; omega)⟩ (fun hH => ?_)
                clear hK K gr8 at8 own7 hCd
                simp only [Act.put, List.setIfInBounds_toArray, List.set_cons_zero, List.set_cons_succ]
                refine hTake (i := 12) (v := ?_) rfl (by kernel_rfl) (by kernel_rfl) (by kernel_rfl) (by rfl) ?_ hH ?_
                rotate_left
                · intro W hW; (try dsimp only at hW); go_simp <;> with_reducible rfl
                simp only [Act.put, List.setIfInBounds_toArray, List.set_cons_zero, List.set_cons_succ]
                refine wpAnyH_done (by kernel_rfl) ?_ _
                refine NoPanic.normal ?_
                have en : k + 1 + (n - k) = n + 1 := by omega
                simp only [en] at own8 ⊢
                rw [← hcells_take, ← hcut_drop es k (by have := HL.out; omega), ← hcells_append, ← hcells_append] at own8
                rw [← HI.out] at own8
                obtain ⟨g8, rfl⟩ := own_at own8 (by omega)
                have O8 := hid (owns_base (base' := B) own8 (by omega))
                have k8 := hid hH.2.2.2.2.2
                clear own8 hH
                go_wp2
                exact bodyPost_ret (v := .slice (some ⟨g8, 0, none⟩) (n + 1) c8) (by simp [results, Tryz.results54, go_sem]) rfl ⟨g8, n + 1, c8, rfl, O8.out, by omega, k8.out⟩
    · obtain rfl : k = n := by omega
      have HI : Hid (Ch.insP es ⟨t, m⟩ = es.take k ++ [⟨t, m⟩] ++ es.drop k) := Ch.insP_at (l := es) (e := ⟨t, m⟩) (k := k) (by have := HL.out; omega) HA.out (fun h => by have := HL.out; omega)
      by_cases hck : c = k
      · subst hck
        go_wp2_with fail
        refine wp_region_noPanic ?_
        refine wp_region_held_drew (S := fun W' => W'.cell? ⟨w.heap.size, 0, none⟩ = some (.int .i64 t) ∧ W'.cell? ⟨w.heap.size, 1, none⟩ = some (.int .i64 m) ∧ w.heap.size < W'.heap.size ∧ Below w.heap.size w W') (by kernel_rfl) (⟨z0, z1, ll, hW.drew⟩) (fun hH => ?_)
        refine hTake (i := 0) (v := ?_) rfl (by kernel_rfl) (by kernel_rfl) (by kernel_rfl) (by rfl) ?_ hH ?_
        rotate_left
        · intro W hW; (try dsimp only at hW); go_simp <;> with_reducible rfl
        simp only [Act.put, List.setIfInBounds_toArray, List.set_cons_zero, List.set_cons_succ]
        refine hTake (i := 1) (v := ?_) rfl (by kernel_rfl) (by kernel_rfl) (by kernel_rfl) (by rfl) ?_ hH ?_
        rotate_left
        · intro W hW; (try dsimp only at hW); go_simp <;> with_reducible rfl
        simp only [Act.put, List.setIfInBounds_toArray, List.set_cons_zero, List.set_cons_succ]
        refine hTake (i := 2) (v := ?_) rfl (by kernel_rfl) (by kernel_rfl) (by kernel_rfl) (by rfl) ?_ hH ?_
        rotate_left
        · intro W hW; (try dsimp only at hW); go_simp <;> with_reducible rfl
        simp only [Act.put, List.setIfInBounds_toArray, List.set_cons_zero, List.set_cons_succ]
        refine hTake (i := 3) (v := ?_) rfl (by kernel_rfl) (by kernel_rfl) (by kernel_rfl) (by rfl) ?_ hH ?_
        rotate_left
        · intro W hW; (try dsimp only at hW); go_simp <;> with_reducible rfl
        simp only [Act.put, List.setIfInBounds_toArray, List.set_cons_zero, List.set_cons_succ]
        refine hTake (i := 4) (v := ?_) rfl (by kernel_rfl) (by kernel_rfl) (by kernel_rfl) (by rfl) ?_ hH ?_
        rotate_left
        · intro W hW; (try dsimp only at hW); go_simp <;> with_reducible rfl
        simp only [Act.put, List.setIfInBounds_toArray, List.set_cons_zero, List.set_cons_succ]
        refine hSkip (i := 5) rfl (by kernel_rfl) (by kernel_rfl) (by kernel_rfl) (by rfl) hH ?_
        simp only [Act.put, List.setIfInBounds_toArray, List.set_cons_zero, List.set_cons_succ]
        refine hSkip (i := 6) rfl (by kernel_rfl) (by kernel_rfl) (by kernel_rfl) (by rfl) hH ?_
        simp only [Act.put, List.setIfInBounds_toArray, List.set_cons_zero, List.set_cons_succ]
        refine hSkip (i := 7) rfl (by kernel_rfl) (by kernel_rfl) (by kernel_rfl) (by rfl) hH ?_
        simp only [Act.put, List.setIfInBounds_toArray, List.set_cons_zero, List.set_cons_succ]
        refine hSkip (i := 8) rfl (by kernel_rfl) (by kernel_rfl) (by kernel_rfl) (by rfl) hH ?_
        simp only [Act.put, List.setIfInBounds_toArray, List.set_cons_zero, List.set_cons_succ]
        refine hSkip (i := 9) rfl (by kernel_rfl) (by kernel_rfl) (by kernel_rfl) (by rfl) hH ?_
        simp only [Act.put, List.setIfInBounds_toArray, List.set_cons_zero, List.set_cons_succ]
        refine hSkip (i := 10) rfl (by kernel_rfl) (by kernel_rfl) (by kernel_rfl) (by rfl) hH ?_
        simp only [Act.put, List.setIfInBounds_toArray, List.set_cons_zero, List.set_cons_succ]
        refine hTake (i := 11) (v := ?_) rfl (by kernel_rfl) (by kernel_rfl) (by kernel_rfl) (by rfl) ?_ hH ?_
        rotate_left
        · intro W hW; (try dsimp only at hW); go_simp <;> with_reducible rfl
        simp only [Act.put, List.setIfInBounds_toArray, List.set_cons_zero, List.set_cons_succ]
        refine wpAnyH_done (by kernel_rfl) ?_ _
        refine NoPanic.normal ?_
        clear z0 z1 hW ll
        go_wp2_with fail
        generalize wr.drew = wp at *
        have hkc : c ≤ c := by omega

        have H1a : ∀ u ∈ (hcells es).take (c * 2), u.oneCell' = true := fun u hu => hcells_one' es u (List.mem_of_mem_take hu)
        have H1b : ∀ u ∈ (hcells es).drop (c * 2), u.oneCell' = true := fun u hu => hcells_one' es u (List.mem_of_mem_drop hu)
        have hCa := cut_take h4 (k := c * 2) (by omega)
        have hCb : CellsAt w (some ⟨g, 0, none⟩) (0 * 2) ((hcells es).drop (c * 2)) := ⟨by rw [List.length_drop, h4.1]; omega, fun h => by omega⟩
        refine wp_region_noPanic ?_
        refine wp_region_held_drew (S := fun W' => W'.cell? ⟨w.heap.size, 0, none⟩ = some (.int .i64 t) ∧ W'.cell? ⟨w.heap.size, 1, none⟩ = some (.int .i64 m) ∧ w.heap.size < W'.heap.size ∧ Below w.heap.size w W') (by kernel_rfl) (⟨hH.1, hH.2.1, hH.2.2.1, hH.2.2.2.drew⟩) (fun hH => ?_)
        generalize wp.drew = wq at *
        refine hTake (i := 1) (v := ?_) rfl (by kernel_rfl) (by kernel_rfl) (by kernel_rfl) (by rfl) ?_ hH ?_
        rotate_left
        · intro W hW; (try dsimp only at hW); go_simp <;> with_reducible rfl
        simp only [Act.put, List.setIfInBounds_toArray, List.set_cons_zero, List.set_cons_succ]
        refine hTake (i := 2) (v := ?_) rfl (by kernel_rfl) (by kernel_rfl) (by kernel_rfl) (by rfl) ?_ hH ?_
        rotate_left
        · intro W hW; (try dsimp only at hW); go_simp <;> with_reducible rfl
        simp only [Act.put, List.setIfInBounds_toArray, List.set_cons_zero, List.set_cons_succ]
        refine hTake (i := 3) (v := ?_) rfl (by kernel_rfl) (by kernel_rfl) (by kernel_rfl) (by rfl) ?_ hH ?_
        rotate_left
        · intro W hW; (try dsimp only at hW); go_simp <;> with_reducible rfl
        simp only [Act.put, List.setIfInBounds_toArray, List.set_cons_zero, List.set_cons_succ]
        refine hTake (i := 5) (v := ?_) rfl (by kernel_rfl) (by kernel_rfl) (by kernel_rfl) (by rfl) ?_ hH ?_
        rotate_left
        · intro W hW; (try dsimp only at hW); go_simp <;> with_reducible rfl
        simp only [Act.put, List.setIfInBounds_toArray, List.set_cons_zero, List.set_cons_succ]
        refine hTake (i := 8) (v := ?_) rfl (by kernel_rfl) (by kernel_rfl) (by kernel_rfl) (by rfl) ?_ hH ?_
        rotate_left
        · intro W hW; (try dsimp only at hW); go_simp <;> with_reducible rfl
        simp only [Act.put, List.setIfInBounds_toArray, List.set_cons_zero, List.set_cons_succ]
        refine hTake (i := 9) (v := ?_) rfl (by kernel_rfl) (by kernel_rfl) (by kernel_rfl) (by rfl) ?_ hH ?_
        rotate_left
        · intro W hW; (try dsimp only at hW); go_simp <;> with_reducible rfl
        simp only [Act.put, List.setIfInBounds_toArray, List.set_cons_zero, List.set_cons_succ]
        refine hTake (i := 10) (v := ?_) rfl (by kernel_rfl) (by kernel_rfl) (by kernel_rfl) (by rfl) ?_ hH ?_
        rotate_left
        · intro W hW; (try dsimp only at hW); go_simp <;> with_reducible rfl
        simp only [Act.put, List.setIfInBounds_toArray, List.set_cons_zero, List.set_cons_succ]
        refine wpAnyH_ready (rs := [0, 6]) (by kernel_rfl) (by simp) ?_
        refine AllReadyH.cons rfl (fun K hK => ?_) (AllReadyH.cons rfl (fun K hK => ?_) AllReadyH.nil)
        · have oE := owns_base (base' := w.heap.size + 1) (new_empty wq 55 2) (by have := hH.2.2.1; omega)
          have kE : Below wq.heap.size wq (wq.alloc (.cells #[] 55)) := (Below.refl _ _).alloc (Nat.le_refl _) _
          go_simp
          refine hK.out _ _ ⟨keep_cell kE hH.1, keep_cell kE hH.2.1, Nat.lt_of_lt_of_le hH.2.2.1 kE.size, hH.2.2.2.trans (kE.mono hH.2.2.2.size)⟩ (fun hH => ?_)
          clear hK K
          clear kE
          refine wpAnyH_ready (rs := [4, 6]) (by kernel_rfl) (by simp) ?_
          refine AllReadyH.cons rfl (fun K hK => ?_) (AllReadyH.cons rfl (fun K hK => ?_) AllReadyH.nil)
          · have hCx := hCa.below hH.2.2.2
            refine step_appX Tryz.underlying27 Tryz.underlying27 gi0 gz0 gz1 gz2 rfl (by omega) (by omega) (.tmp 20) (.tmp 23) rfl rfl (w.heap.size + 1) (.slice (some ⟨wq.heap.size, 0, none⟩) 0 0) 0 [] (some ⟨g, 0, none⟩) c c ((hcells es).take (c * 2)) rfl rfl oE hCx H1a (by omega) (by omega) ?_
            intro a5 c5 w5 own5 gr5 at5
            simp only [Nat.zero_add, List.nil_append] at own5 at5 ⊢
            refine hK.out _ _ ⟨grown_cell gr5 hH.1 (fun e => by have := (owns_lt oE _ e).1; omega), grown_cell gr5 hH.2.1 (fun e => by have := (owns_lt oE _ e).1; omega), Nat.lt_of_lt_of_le hH.2.2.1 gr5.size, hH.2.2.2.grown gr5 hH.2.2.2.size (fun g hg => by have := (owns_lt oE g hg).1; omega)⟩ (fun hH => ?_)
            clear hK K gr5 at5 oE hCx
            simp only [Act.put, List.setIfInBounds_toArray, List.set_cons_zero, List.set_cons_succ]
            refine wpAnyH_ready (rs := [6]) (by kernel_rfl) (by simp) ?_
            refine AllReadyH.cons rfl (fun K hK => ?_) AllReadyH.nil
            · have kN : Below w5.heap.size w5 (w5.alloc (.cells #[.int .i64 t, .int .i64 m] 55)) := (Below.refl _ _).alloc (Nat.le_refl _) _
              have hCN := new_hold w5 t m 55
              go_simp
              refine hK.out _ _ ⟨keep_cell kN hH.1, keep_cell kN hH.2.1, Nat.lt_of_lt_of_le hH.2.2.1 kN.size, hH.2.2.2.trans (kN.mono hH.2.2.2.size)⟩ (fun hH => ?_)
              clear hK K
              replace own5 := owns_below own5 kN
              clear kN
              refine wpAnyH_ready (rs := [7]) (by kernel_rfl) (by simp) ?_
              refine AllReadyH.cons rfl (fun K hK => ?_) AllReadyH.nil
              · refine step_appX Tryz.underlying27 Tryz.underlying27 gi0 gz0 gz1 gz2 rfl (by omega) (by omega) (.tmp 24) (.tmp 26) rfl rfl (w.heap.size + 1) (.slice a5 c c5) c ((hcells es).take (c * 2)) _ 1 1 (hcells [⟨t, m⟩]) rfl rfl own5 hCN (hcells_one' _) (by omega) (by omega) ?_
                intro a7 c7 w7 own7 gr7 at7
                refine hK.out _ _ ⟨grown_cell gr7 hH.1 (fun e => by have := (owns_lt own5 _ e).1; omega), grown_cell gr7 hH.2.1 (fun e => by have := (owns_lt own5 _ e).1; omega), Nat.lt_of_lt_of_le hH.2.2.1 gr7.size, hH.2.2.2.grown gr7 hH.2.2.2.size (fun g hg => by have := (owns_lt own5 g hg).1; omega)⟩ (fun hH => ?_)
                clear hK K gr7 at7 own5 hCN
                simp only [Act.put, List.setIfInBounds_toArray, List.set_cons_zero, List.set_cons_succ]
                have hCd := hCb.below hH.2.2.2
                refine wpAnyH_ready (rs := [11]) (by kernel_rfl) (by simp) ?_
                refine AllReadyH.cons rfl (fun K hK => ?_) AllReadyH.nil
                refine step_appX Tryz.underlying27 Tryz.underlying27 gi0 gz0 gz1 gz2 rfl (by omega) (by omega) (.tmp 27) (.tmp 30) rfl rfl (w.heap.size + 1) (.slice a7 (c + 1) c7) (c + 1) _ (some ⟨g, 0, none⟩) 0 0 ((hcells es).drop (c * 2)) rfl rfl own7 hCd H1b (by omega) (by omega) ?_
                intro a8 c8 w8 own8 gr8 at8
                refine hK.out _ _ ⟨grown_cell gr8 hH.1 (fun e => by have := (owns_lt own7 _ e).1; omega), grown_cell gr8 hH.2.1 (fun e => by have := (owns_lt own7 _ e).1; omega), Nat.lt_of_lt_of_le hH.2.2.1 gr8.size, hH.2.2.2.grown gr8 hH.2.2.2.size (fun g hg => by have := (owns_lt own7 g hg).1; omega)⟩ (fun hH => ?_)
                clear hK K gr8 at8 own7 hCd
                simp only [Act.put, List.setIfInBounds_toArray, List.set_cons_zero, List.set_cons_succ]
                refine hTake (i := 12) (v := ?_) rfl (by kernel_rfl) (by kernel_rfl) (by kernel_rfl) (by rfl) ?_ hH ?_
                rotate_left
                · intro W hW; (try dsimp only at hW); go_simp <;> with_reducible rfl
                simp only [Act.put, List.setIfInBounds_toArray, List.set_cons_zero, List.set_cons_succ]
                refine wpAnyH_done (by kernel_rfl) ?_ _
                refine NoPanic.normal ?_
                have en : c + 1 + 0 = c + 1 := by omega
                simp only [en] at own8 ⊢
                rw [← hcells_take, ← hcut_drop es c (by have := HL.out; omega), ← hcells_append, ← hcells_append] at own8
                rw [← HI.out] at own8
                obtain ⟨g8, rfl⟩ := own_at own8 (by omega)
                have O8 := hid (owns_base (base' := B) own8 (by omega))
                have k8 := hid hH.2.2.2
                clear own8 hH
                go_wp2
                exact bodyPost_ret (v := .slice (some ⟨g8, 0, none⟩) (c + 1) c8) (by simp [results, Tryz.results54, go_sem]) rfl ⟨g8, c + 1, c8, rfl, O8.out, by omega, k8.out⟩
          · have kN : Below (wq.alloc (.cells #[] 55)).heap.size (wq.alloc (.cells #[] 55)) ((wq.alloc (.cells #[] 55)).alloc (.cells #[.int .i64 t, .int .i64 m] 55)) := (Below.refl _ _).alloc (Nat.le_refl _) _
            have hCN := new_hold (wq.alloc (.cells #[] 55)) t m 55
            rw [show (wq.alloc (.cells #[] 55)).heap.size = wq.heap.size + 1 by simp] at hCN
            go_simp
            refine hK.out _ _ ⟨keep_cell kN hH.1, keep_cell kN hH.2.1, Nat.lt_of_lt_of_le hH.2.2.1 kN.size, hH.2.2.2.trans (kN.mono hH.2.2.2.size)⟩ (fun hH => ?_)
            clear hK K
            replace oE := owns_below oE kN
            clear kN
            refine wpAnyH_ready (rs := [4]) (by kernel_rfl) (by simp) ?_
            refine AllReadyH.cons rfl (fun K hK => ?_) AllReadyH.nil
            · have hCx := hCa.below hH.2.2.2
              refine step_appX Tryz.underlying27 Tryz.underlying27 gi0 gz0 gz1 gz2 rfl (by omega) (by omega) (.tmp 20) (.tmp 23) rfl rfl (w.heap.size + 1) (.slice (some ⟨wq.heap.size, 0, none⟩) 0 0) 0 [] (some ⟨g, 0, none⟩) c c ((hcells es).take (c * 2)) rfl rfl oE hCx H1a (by omega) (by omega) ?_
              intro a5 c5 w5 own5 gr5 at5
              simp only [Nat.zero_add, List.nil_append] at own5 at5 ⊢
              replace hCN := cells_grown hCN gr5 (fun b off ha e => by cases ha; simp [Value.ownBlock] at e)
              refine hK.out _ _ ⟨grown_cell gr5 hH.1 (fun e => by have := (owns_lt oE _ e).1; omega), grown_cell gr5 hH.2.1 (fun e => by have := (owns_lt oE _ e).1; omega), Nat.lt_of_lt_of_le hH.2.2.1 gr5.size, hH.2.2.2.grown gr5 hH.2.2.2.size (fun g hg => by have := (owns_lt oE g hg).1; omega)⟩ (fun hH => ?_)
              clear hK K gr5 at5 oE hCx
              simp only [Act.put, List.setIfInBounds_toArray, List.set_cons_zero, List.set_cons_succ]
              refine wpAnyH_ready (rs := [7]) (by kernel_rfl) (by simp) ?_
              refine AllReadyH.cons rfl (fun K hK => ?_) AllReadyH.nil
              · refine step_appX Tryz.underlying27 Tryz.underlying27 gi0 gz0 gz1 gz2 rfl (by omega) (by omega) (.tmp 24) (.tmp 26) rfl rfl (w.heap.size + 1) (.slice a5 c c5) c ((hcells es).take (c * 2)) _ 1 1 (hcells [⟨t, m⟩]) rfl rfl own5 hCN (hcells_one' _) (by omega) (by omega) ?_
                intro a7 c7 w7 own7 gr7 at7
                refine hK.out _ _ ⟨grown_cell gr7 hH.1 (fun e => by have := (owns_lt own5 _ e).1; omega), grown_cell gr7 hH.2.1 (fun e => by have := (owns_lt own5 _ e).1; omega), Nat.lt_of_lt_of_le hH.2.2.1 gr7.size, hH.2.2.2.grown gr7 hH.2.2.2.size (fun g hg => by have := (owns_lt own5 g hg).1; omega)⟩ (fun hH => ?_)
                clear hK K gr7 at7 own5 hCN
                simp only [Act.put, List.setIfInBounds_toArray, List.set_cons_zero, List.set_cons_succ]
                have hCd := hCb.below hH.2.2.2
                refine wpAnyH_ready (rs := [11]) (by kernel_rfl) (by simp) ?_
                refine AllReadyH.cons rfl (fun K hK => ?_) AllReadyH.nil
                refine step_appX Tryz.underlying27 Tryz.underlying27 gi0 gz0 gz1 gz2 rfl (by omega) (by omega) (.tmp 27) (.tmp 30) rfl rfl (w.heap.size + 1) (.slice a7 (c + 1) c7) (c + 1) _ (some ⟨g, 0, none⟩) 0 0 ((hcells es).drop (c * 2)) rfl rfl own7 hCd H1b (by omega) (by omega) ?_
                intro a8 c8 w8 own8 gr8 at8
                refine hK.out _ _ ⟨grown_cell gr8 hH.1 (fun e => by have := (owns_lt own7 _ e).1; omega), grown_cell gr8 hH.2.1 (fun e => by have := (owns_lt own7 _ e).1; omega), Nat.lt_of_lt_of_le hH.2.2.1 gr8.size, hH.2.2.2.grown gr8 hH.2.2.2.size (fun g hg => by have := (owns_lt own7 g hg).1; omega)⟩ (fun hH => ?_)
                clear hK K gr8 at8 own7 hCd
                simp only [Act.put, List.setIfInBounds_toArray, List.set_cons_zero, List.set_cons_succ]
                refine hTake (i := 12) (v := ?_) rfl (by kernel_rfl) (by kernel_rfl) (by kernel_rfl) (by rfl) ?_ hH ?_
                rotate_left
                · intro W hW; (try dsimp only at hW); go_simp <;> with_reducible rfl
                simp only [Act.put, List.setIfInBounds_toArray, List.set_cons_zero, List.set_cons_succ]
                refine wpAnyH_done (by kernel_rfl) ?_ _
                refine NoPanic.normal ?_
                have en : c + 1 + 0 = c + 1 := by omega
                simp only [en] at own8 ⊢
                rw [← hcells_take, ← hcut_drop es c (by have := HL.out; omega), ← hcells_append, ← hcells_append] at own8
                rw [← HI.out] at own8
                obtain ⟨g8, rfl⟩ := own_at own8 (by omega)
                have O8 := hid (owns_base (base' := B) own8 (by omega))
                have k8 := hid hH.2.2.2
                clear own8 hH
                go_wp2
                exact bodyPost_ret (v := .slice (some ⟨g8, 0, none⟩) (c + 1) c8) (by simp [results, Tryz.results54, go_sem]) rfl ⟨g8, c + 1, c8, rfl, O8.out, by omega, k8.out⟩
        · have kN : Below wq.heap.size wq (wq.alloc (.cells #[.int .i64 t, .int .i64 m] 55)) := (Below.refl _ _).alloc (Nat.le_refl _) _
          have hCN := new_hold wq t m 55
          go_simp
          refine hK.out _ _ ⟨keep_cell kN hH.1, keep_cell kN hH.2.1, Nat.lt_of_lt_of_le hH.2.2.1 kN.size, hH.2.2.2.trans (kN.mono hH.2.2.2.size)⟩ (fun hH => ?_)
          clear hK K
          clear kN
          refine wpAnyH_ready (rs := [0]) (by kernel_rfl) (by simp) ?_
          refine AllReadyH.cons rfl (fun K hK => ?_) AllReadyH.nil
          · have oE := owns_base (base' := w.heap.size + 1) (new_empty (wq.alloc (.cells #[.int .i64 t, .int .i64 m] 55)) 55 2) (by have := hH.2.2.1; omega)
            have kE : Below (wq.alloc (.cells #[.int .i64 t, .int .i64 m] 55)).heap.size (wq.alloc (.cells #[.int .i64 t, .int .i64 m] 55)) ((wq.alloc (.cells #[.int .i64 t, .int .i64 m] 55)).alloc (.cells #[] 55)) := (Below.refl _ _).alloc (Nat.le_refl _) _
            rw [show (wq.alloc (.cells #[.int .i64 t, .int .i64 m] 55)).heap.size = wq.heap.size + 1 by simp] at oE
            go_simp
            refine hK.out _ _ ⟨keep_cell kE hH.1, keep_cell kE hH.2.1, Nat.lt_of_lt_of_le hH.2.2.1 kE.size, hH.2.2.2.trans (kE.mono hH.2.2.2.size)⟩ (fun hH => ?_)
            clear hK K
            replace hCN := hCN.below kE
            clear kE
            refine wpAnyH_ready (rs := [4]) (by kernel_rfl) (by simp) ?_
            refine AllReadyH.cons rfl (fun K hK => ?_) AllReadyH.nil
            · have hCx := hCa.below hH.2.2.2
              refine step_appX Tryz.underlying27 Tryz.underlying27 gi0 gz0 gz1 gz2 rfl (by omega) (by omega) (.tmp 20) (.tmp 23) rfl rfl (w.heap.size + 1) (.slice (some ⟨wq.heap.size + 1, 0, none⟩) 0 0) 0 [] (some ⟨g, 0, none⟩) c c ((hcells es).take (c * 2)) rfl rfl oE hCx H1a (by omega) (by omega) ?_
              intro a5 c5 w5 own5 gr5 at5
              simp only [Nat.zero_add, List.nil_append] at own5 at5 ⊢
              replace hCN := cells_grown hCN gr5 (fun b off ha e => by cases ha; simp [Value.ownBlock] at e)
              refine hK.out _ _ ⟨grown_cell gr5 hH.1 (fun e => by have := (owns_lt oE _ e).1; omega), grown_cell gr5 hH.2.1 (fun e => by have := (owns_lt oE _ e).1; omega), Nat.lt_of_lt_of_le hH.2.2.1 gr5.size, hH.2.2.2.grown gr5 hH.2.2.2.size (fun g hg => by have := (owns_lt oE g hg).1; omega)⟩ (fun hH => ?_)
              clear hK K gr5 at5 oE hCx
              simp only [Act.put, List.setIfInBounds_toArray, List.set_cons_zero, List.set_cons_succ]
              refine wpAnyH_ready (rs := [7]) (by kernel_rfl) (by simp) ?_
              refine AllReadyH.cons rfl (fun K hK => ?_) AllReadyH.nil
              · refine step_appX Tryz.underlying27 Tryz.underlying27 gi0 gz0 gz1 gz2 rfl (by omega) (by omega) (.tmp 24) (.tmp 26) rfl rfl (w.heap.size + 1) (.slice a5 c c5) c ((hcells es).take (c * 2)) _ 1 1 (hcells [⟨t, m⟩]) rfl rfl own5 hCN (hcells_one' _) (by omega) (by omega) ?_
                intro a7 c7 w7 own7 gr7 at7
                refine hK.out _ _ ⟨grown_cell gr7 hH.1 (fun e => by have := (owns_lt own5 _ e).1; omega), grown_cell gr7 hH.2.1 (fun e => by have := (owns_lt own5 _ e).1; omega), Nat.lt_of_lt_of_le hH.2.2.1 gr7.size, hH.2.2.2.grown gr7 hH.2.2.2.size (fun g hg => by have := (owns_lt own5 g hg).1; omega)⟩ (fun hH => ?_)
                clear hK K gr7 at7 own5 hCN
                simp only [Act.put, List.setIfInBounds_toArray, List.set_cons_zero, List.set_cons_succ]
                have hCd := hCb.below hH.2.2.2
                refine wpAnyH_ready (rs := [11]) (by kernel_rfl) (by simp) ?_
                refine AllReadyH.cons rfl (fun K hK => ?_) AllReadyH.nil
                refine step_appX Tryz.underlying27 Tryz.underlying27 gi0 gz0 gz1 gz2 rfl (by omega) (by omega) (.tmp 27) (.tmp 30) rfl rfl (w.heap.size + 1) (.slice a7 (c + 1) c7) (c + 1) _ (some ⟨g, 0, none⟩) 0 0 ((hcells es).drop (c * 2)) rfl rfl own7 hCd H1b (by omega) (by omega) ?_
                intro a8 c8 w8 own8 gr8 at8
                refine hK.out _ _ ⟨grown_cell gr8 hH.1 (fun e => by have := (owns_lt own7 _ e).1; omega), grown_cell gr8 hH.2.1 (fun e => by have := (owns_lt own7 _ e).1; omega), Nat.lt_of_lt_of_le hH.2.2.1 gr8.size, hH.2.2.2.grown gr8 hH.2.2.2.size (fun g hg => by have := (owns_lt own7 g hg).1; omega)⟩ (fun hH => ?_)
                clear hK K gr8 at8 own7 hCd
                simp only [Act.put, List.setIfInBounds_toArray, List.set_cons_zero, List.set_cons_succ]
                refine hTake (i := 12) (v := ?_) rfl (by kernel_rfl) (by kernel_rfl) (by kernel_rfl) (by rfl) ?_ hH ?_
                rotate_left
                · intro W hW; (try dsimp only at hW); go_simp <;> with_reducible rfl
                simp only [Act.put, List.setIfInBounds_toArray, List.set_cons_zero, List.set_cons_succ]
                refine wpAnyH_done (by kernel_rfl) ?_ _
                refine NoPanic.normal ?_
                have en : c + 1 + 0 = c + 1 := by omega
                simp only [en] at own8 ⊢
                rw [← hcells_take, ← hcut_drop es c (by have := HL.out; omega), ← hcells_append, ← hcells_append] at own8
                rw [← HI.out] at own8
                obtain ⟨g8, rfl⟩ := own_at own8 (by omega)
                have O8 := hid (owns_base (base' := B) own8 (by omega))
                have k8 := hid hH.2.2.2
                clear own8 hH
                go_wp2
                exact bodyPost_ret (v := .slice (some ⟨g8, 0, none⟩) (c + 1) c8) (by simp [results, Tryz.results54, go_sem]) rfl ⟨g8, c + 1, c8, rfl, O8.out, by omega, k8.out⟩
      · go_wp2_with fail
        refine wp_region_noPanic ?_
        refine wp_region_held_drew (S := fun W' => W'.cell? ⟨w.heap.size, 0, none⟩ = some (.int .i64 t) ∧ W'.cell? ⟨w.heap.size, 1, none⟩ = some (.int .i64 m) ∧ w.heap.size < W'.heap.size ∧ Below w.heap.size w W') (by kernel_rfl) (⟨z0, z1, ll, hW.drew⟩) (fun hH => ?_)
        refine hTake (i := 0) (v := ?_) rfl (by kernel_rfl) (by kernel_rfl) (by kernel_rfl) (by rfl) ?_ hH ?_
        rotate_left
        · intro W hW; (try dsimp only at hW); go_simp <;> with_reducible rfl
        simp only [Act.put, List.setIfInBounds_toArray, List.set_cons_zero, List.set_cons_succ]
        refine hTake (i := 1) (v := ?_) rfl (by kernel_rfl) (by kernel_rfl) (by kernel_rfl) (by rfl) ?_ hH ?_
        rotate_left
        · intro W hW; (try dsimp only at hW); go_simp <;> with_reducible rfl
        simp only [Act.put, List.setIfInBounds_toArray, List.set_cons_zero, List.set_cons_succ]
        refine hTake (i := 2) (v := ?_) rfl (by kernel_rfl) (by kernel_rfl) (by kernel_rfl) (by rfl) ?_ hH ?_
        rotate_left
        · intro W hW; (try dsimp only at hW); go_simp <;> with_reducible rfl
        simp only [Act.put, List.setIfInBounds_toArray, List.set_cons_zero, List.set_cons_succ]
        refine hTake (i := 3) (v := ?_) rfl (by kernel_rfl) (by kernel_rfl) (by kernel_rfl) (by rfl) ?_ hH ?_
        rotate_left
        · intro W hW; (try dsimp only at hW); go_simp <;> with_reducible rfl
        simp only [Act.put, List.setIfInBounds_toArray, List.set_cons_zero, List.set_cons_succ]
        refine hTake (i := 4) (v := ?_) rfl (by kernel_rfl) (by kernel_rfl) (by kernel_rfl) (by rfl) ?_ hH ?_
        rotate_left
        · intro W hW; (try dsimp only at hW); go_simp <;> with_reducible rfl
        simp only [Act.put, List.setIfInBounds_toArray, List.set_cons_zero, List.set_cons_succ]
        refine hSkip (i := 5) rfl (by kernel_rfl) (by kernel_rfl) (by kernel_rfl) (by rfl) hH ?_
        simp only [Act.put, List.setIfInBounds_toArray, List.set_cons_zero, List.set_cons_succ]
        refine hSkip (i := 6) rfl (by kernel_rfl) (by kernel_rfl) (by kernel_rfl) (by rfl) hH ?_
        simp only [Act.put, List.setIfInBounds_toArray, List.set_cons_zero, List.set_cons_succ]
        refine hSkip (i := 7) rfl (by kernel_rfl) (by kernel_rfl) (by kernel_rfl) (by rfl) hH ?_
        simp only [Act.put, List.setIfInBounds_toArray, List.set_cons_zero, List.set_cons_succ]
        refine hSkip (i := 8) rfl (by kernel_rfl) (by kernel_rfl) (by kernel_rfl) (by rfl) hH ?_
        simp only [Act.put, List.setIfInBounds_toArray, List.set_cons_zero, List.set_cons_succ]
        refine hSkip (i := 9) rfl (by kernel_rfl) (by kernel_rfl) (by kernel_rfl) (by rfl) hH ?_
        simp only [Act.put, List.setIfInBounds_toArray, List.set_cons_zero, List.set_cons_succ]
        refine hSkip (i := 10) rfl (by kernel_rfl) (by kernel_rfl) (by kernel_rfl) (by rfl) hH ?_
        simp only [Act.put, List.setIfInBounds_toArray, List.set_cons_zero, List.set_cons_succ]
        refine hTake (i := 11) (v := ?_) rfl (by kernel_rfl) (by kernel_rfl) (by kernel_rfl) (by rfl) ?_ hH ?_
        rotate_left
        · intro W hW; (try dsimp only at hW); go_simp <;> with_reducible rfl
        simp only [Act.put, List.setIfInBounds_toArray, List.set_cons_zero, List.set_cons_succ]
        refine wpAnyH_done (by kernel_rfl) ?_ _
        refine NoPanic.normal ?_
        clear z0 z1 hW ll
        go_wp2_with fail
        generalize wr.drew = wp at *
        have hkc : k ≤ c := by omega
        have hck2 : ¬ c = k := by omega
        have H1a : ∀ u ∈ (hcells es).take (k * 2), u.oneCell' = true := fun u hu => hcells_one' es u (List.mem_of_mem_take hu)
        have H1b : ∀ u ∈ (hcells es).drop (k * 2), u.oneCell' = true := fun u hu => hcells_one' es u (List.mem_of_mem_drop hu)
        have hCa := cut_take h4 (k := k * 2) (by omega)
        have hCb : CellsAt w (some ⟨g, k * 2, none⟩) (0 * 2) ((hcells es).drop (k * 2)) := by have := cut_drop h4 (k := k * 2) (by omega); rw [Nat.zero_add, Nat.sub_self] at this; simpa using this
        refine wp_region_noPanic ?_
        refine wp_region_held_drew (S := fun W' => W'.cell? ⟨w.heap.size, 0, none⟩ = some (.int .i64 t) ∧ W'.cell? ⟨w.heap.size, 1, none⟩ = some (.int .i64 m) ∧ w.heap.size < W'.heap.size ∧ Below w.heap.size w W') (by kernel_rfl) (⟨hH.1, hH.2.1, hH.2.2.1, hH.2.2.2.drew⟩) (fun hH => ?_)
        generalize wp.drew = wq at *
        refine hTake (i := 1) (v := ?_) rfl (by kernel_rfl) (by kernel_rfl) (by kernel_rfl) (by rfl) ?_ hH ?_
        rotate_left
        · intro W hW; (try dsimp only at hW); go_simp <;> with_reducible rfl
        simp only [Act.put, List.setIfInBounds_toArray, List.set_cons_zero, List.set_cons_succ]
        refine hTake (i := 2) (v := ?_) rfl (by kernel_rfl) (by kernel_rfl) (by kernel_rfl) (by rfl) ?_ hH ?_
        rotate_left
        · intro W hW; (try dsimp only at hW); go_simp <;> with_reducible rfl
        simp only [Act.put, List.setIfInBounds_toArray, List.set_cons_zero, List.set_cons_succ]
        refine hTake (i := 3) (v := ?_) rfl (by kernel_rfl) (by kernel_rfl) (by kernel_rfl) (by rfl) ?_ hH ?_
        rotate_left
        · intro W hW; (try dsimp only at hW); go_simp <;> with_reducible rfl
        simp only [Act.put, List.setIfInBounds_toArray, List.set_cons_zero, List.set_cons_succ]
        refine hTake (i := 5) (v := ?_) rfl (by kernel_rfl) (by kernel_rfl) (by kernel_rfl) (by rfl) ?_ hH ?_
        rotate_left
        · intro W hW; (try dsimp only at hW); go_simp <;> with_reducible rfl
        simp only [Act.put, List.setIfInBounds_toArray, List.set_cons_zero, List.set_cons_succ]
        refine hTake (i := 8) (v := ?_) rfl (by kernel_rfl) (by kernel_rfl) (by kernel_rfl) (by rfl) ?_ hH ?_
        rotate_left
        · intro W hW; (try dsimp only at hW); go_simp <;> with_reducible rfl
        simp only [Act.put, List.setIfInBounds_toArray, List.set_cons_zero, List.set_cons_succ]
        refine hTake (i := 9) (v := ?_) rfl (by kernel_rfl) (by kernel_rfl) (by kernel_rfl) (by rfl) ?_ hH ?_
        rotate_left
        · intro W hW; (try dsimp only at hW); go_simp <;> with_reducible rfl
        simp only [Act.put, List.setIfInBounds_toArray, List.set_cons_zero, List.set_cons_succ]
        refine hTake (i := 10) (v := ?_) rfl (by kernel_rfl) (by kernel_rfl) (by kernel_rfl) (by rfl) ?_ hH ?_
        rotate_left
        · intro W hW; (try dsimp only at hW); go_simp <;> with_reducible rfl
        simp only [Act.put, List.setIfInBounds_toArray, List.set_cons_zero, List.set_cons_succ]
        refine wpAnyH_ready (rs := [0, 6]) (by kernel_rfl) (by simp) ?_
        refine AllReadyH.cons rfl (fun K hK => ?_) (AllReadyH.cons rfl (fun K hK => ?_) AllReadyH.nil)
        · have oE := owns_base (base' := w.heap.size + 1) (new_empty wq 55 2) (by have := hH.2.2.1; omega)
          have kE : Below wq.heap.size wq (wq.alloc (.cells #[] 55)) := (Below.refl _ _).alloc (Nat.le_refl _) _
          go_simp
          refine hK.out _ _ ⟨keep_cell kE hH.1, keep_cell kE hH.2.1, Nat.lt_of_lt_of_le hH.2.2.1 kE.size, hH.2.2.2.trans (kE.mono hH.2.2.2.size)⟩ (fun hH => ?_)
          clear hK K
          clear kE
          refine wpAnyH_ready (rs := [4, 6]) (by kernel_rfl) (by simp) ?_
          refine AllReadyH.cons rfl (fun K hK => ?_) (AllReadyH.cons rfl (fun K hK => ?_) AllReadyH.nil)
          · have hCx := hCa.below hH.2.2.2
            refine step_appX Tryz.underlying27 Tryz.underlying27 gi0 gz0 gz1 gz2 rfl (by omega) (by omega) (.tmp 20) (.tmp 23) rfl rfl (w.heap.size + 1) (.slice (some ⟨wq.heap.size, 0, none⟩) 0 0) 0 [] (some ⟨g, 0, none⟩) k c ((hcells es).take (k * 2)) rfl rfl oE hCx H1a (by omega) (by omega) ?_
            intro a5 c5 w5 own5 gr5 at5
            simp only [Nat.zero_add, List.nil_append] at own5 at5 ⊢
            refine hK.out _ _ ⟨grown_cell gr5 hH.1 (fun e => by have := (owns_lt oE _ e).1; omega), grown_cell gr5 hH.2.1 (fun e => by have := (owns_lt oE _ e).1; omega), Nat.lt_of_lt_of_le hH.2.2.1 gr5.size, hH.2.2.2.grown gr5 hH.2.2.2.size (fun g hg => by have := (owns_lt oE g hg).1; omega)⟩ (fun hH => ?_)
            clear hK K gr5 at5 oE hCx
            simp only [Act.put, List.setIfInBounds_toArray, List.set_cons_zero, List.set_cons_succ]
            refine wpAnyH_ready (rs := [6]) (by kernel_rfl) (by simp) ?_
            refine AllReadyH.cons rfl (fun K hK => ?_) AllReadyH.nil
            · have kN : Below w5.heap.size w5 (w5.alloc (.cells #[.int .i64 t, .int .i64 m] 55)) := (Below.refl _ _).alloc (Nat.le_refl _) _
              have hCN := new_hold w5 t m 55
              go_simp
              refine hK.out _ _ ⟨keep_cell kN hH.1, keep_cell kN hH.2.1, Nat.lt_of_lt_of_le hH.2.2.1 kN.size, hH.2.2.2.trans (kN.mono hH.2.2.2.size)⟩ (fun hH => ?_)
              clear hK K
              replace own5 := owns_below own5 kN
              clear kN
              refine wpAnyH_ready (rs := [7]) (by kernel_rfl) (by simp) ?_
              refine AllReadyH.cons rfl (fun K hK => ?_) AllReadyH.nil
              · refine step_appX Tryz.underlying27 Tryz.underlying27 gi0 gz0 gz1 gz2 rfl (by omega) (by omega) (.tmp 24) (.tmp 26) rfl rfl (w.heap.size + 1) (.slice a5 k c5) k ((hcells es).take (k * 2)) _ 1 1 (hcells [⟨t, m⟩]) rfl rfl own5 hCN (hcells_one' _) (by omega) (by omega) ?_
                intro a7 c7 w7 own7 gr7 at7
                refine hK.out _ _ ⟨grown_cell gr7 hH.1 (fun e => by have := (owns_lt own5 _ e).1; omega), grown_cell gr7 hH.2.1 (fun e => by have := (owns_lt own5 _ e).1; omega), Nat.lt_of_lt_of_le hH.2.2.1 gr7.size, hH.2.2.2.grown gr7 hH.2.2.2.size (fun g hg => by have := (owns_lt own5 g hg).1; omega)⟩ (fun hH => ?_)
                clear hK K gr7 at7 own5 hCN
                simp only [Act.put, List.setIfInBounds_toArray, List.set_cons_zero, List.set_cons_succ]
                have hCd := hCb.below hH.2.2.2
                refine wpAnyH_ready (rs := [11]) (by kernel_rfl) (by simp) ?_
                refine AllReadyH.cons rfl (fun K hK => ?_) AllReadyH.nil
                refine step_appX Tryz.underlying27 Tryz.underlying27 gi0 gz0 gz1 gz2 rfl (by omega) (by omega) (.tmp 27) (.tmp 30) rfl rfl (w.heap.size + 1) (.slice a7 (k + 1) c7) (k + 1) _ (some ⟨g, k * 2, none⟩) 0 (c - k) ((hcells es).drop (k * 2)) rfl rfl own7 hCd H1b (by omega) (by omega) ?_
                intro a8 c8 w8 own8 gr8 at8
                refine hK.out _ _ ⟨grown_cell gr8 hH.1 (fun e => by have := (owns_lt own7 _ e).1; omega), grown_cell gr8 hH.2.1 (fun e => by have := (owns_lt own7 _ e).1; omega), Nat.lt_of_lt_of_le hH.2.2.1 gr8.size, hH.2.2.2.grown gr8 hH.2.2.2.size (fun g hg => by have := (owns_lt own7 g hg).1; omega)⟩ (fun hH => ?_)
                clear hK K gr8 at8 own7 hCd
                simp only [Act.put, List.setIfInBounds_toArray, List.set_cons_zero, List.set_cons_succ]
                refine hTake (i := 12) (v := ?_) rfl (by kernel_rfl) (by kernel_rfl) (by kernel_rfl) (by rfl) ?_ hH ?_
                rotate_left
                · intro W hW; (try dsimp only at hW); go_simp <;> with_reducible rfl
                simp only [Act.put, List.setIfInBounds_toArray, List.set_cons_zero, List.set_cons_succ]
                refine wpAnyH_done (by kernel_rfl) ?_ _
                refine NoPanic.normal ?_
                have en : k + 1 + 0 = k + 1 := by omega
                simp only [en] at own8 ⊢
                rw [← hcells_take, ← hcut_drop es k (by have := HL.out; omega), ← hcells_append, ← hcells_append] at own8
                rw [← HI.out] at own8
                obtain ⟨g8, rfl⟩ := own_at own8 (by omega)
                have O8 := hid (owns_base (base' := B) own8 (by omega))
                have k8 := hid hH.2.2.2
                clear own8 hH
                go_wp2
                exact bodyPost_ret (v := .slice (some ⟨g8, 0, none⟩) (k + 1) c8) (by simp [results, Tryz.results54, go_sem]) rfl ⟨g8, k + 1, c8, rfl, O8.out, by omega, k8.out⟩
          · have kN : Below (wq.alloc (.cells #[] 55)).heap.size (wq.alloc (.cells #[] 55)) ((wq.alloc (.cells #[] 55)).alloc (.cells #[.int .i64 t, .int .i64 m] 55)) := (Below.refl _ _).alloc (Nat.le_refl _) _
            have hCN := new_hold (wq.alloc (.cells #[] 55)) t m 55
            rw [show (wq.alloc (.cells #[] 55)).heap.size = wq.heap.size + 1 by simp] at hCN
            go_simp
            refine hK.out _ _ ⟨keep_cell kN hH.1, keep_cell kN hH.2.1, Nat.lt_of_lt_of_le hH.2.2.1 kN.size, hH.2.2.2.trans (kN.mono hH.2.2.2.size)⟩ (fun hH => ?_)
            clear hK K
            replace oE := owns_below oE kN
            clear kN
            refine wpAnyH_ready (rs := [4]) (by kernel_rfl) (by simp) ?_
            refine AllReadyH.cons rfl (fun K hK => ?_) AllReadyH.nil
            · have hCx := hCa.below hH.2.2.2
              refine step_appX Tryz.underlying27 Tryz.underlying27 gi0 gz0 gz1 gz2 rfl (by omega) (by omega) (.tmp 20) (.tmp 23) rfl rfl (w.heap.size + 1) (.slice (some ⟨wq.heap.size, 0, none⟩) 0 0) 0 [] (some ⟨g, 0, none⟩) k c ((hcells es).take (k * 2)) rfl rfl oE hCx H1a (by omega) (by omega) ?_
              intro a5 c5 w5 own5 gr5 at5
              simp only [Nat.zero_add, List.nil_append] at own5 at5 ⊢
              replace hCN := cells_grown hCN gr5 (fun b off ha e => by cases ha; simp [Value.ownBlock] at e)
              refine hK.out _ _ ⟨grown_cell gr5 hH.1 (fun e => by have := (owns_lt oE _ e).1; omega), grown_cell gr5 hH.2.1 (fun e => by have := (owns_lt oE _ e).1; omega), Nat.lt_of_lt_of_le hH.2.2.1 gr5.size, hH.2.2.2.grown gr5 hH.2.2.2.size (fun g hg => by have := (owns_lt oE g hg).1; omega)⟩ (fun hH => ?_)
              clear hK K gr5 at5 oE hCx
              simp only [Act.put, List.setIfInBounds_toArray, List.set_cons_zero, List.set_cons_succ]
              refine wpAnyH_ready (rs := [7]) (by kernel_rfl) (by simp) ?_
              refine AllReadyH.cons rfl (fun K hK => ?_) AllReadyH.nil
              · refine step_appX Tryz.underlying27 Tryz.underlying27 gi0 gz0 gz1 gz2 rfl (by omega) (by omega) (.tmp 24) (.tmp 26) rfl rfl (w.heap.size + 1) (.slice a5 k c5) k ((hcells es).take (k * 2)) _ 1 1 (hcells [⟨t, m⟩]) rfl rfl own5 hCN (hcells_one' _) (by omega) (by omega) ?_
                intro a7 c7 w7 own7 gr7 at7
                refine hK.out _ _ ⟨grown_cell gr7 hH.1 (fun e => by have := (owns_lt own5 _ e).1; omega), grown_cell gr7 hH.2.1 (fun e => by have := (owns_lt own5 _ e).1; omega), Nat.lt_of_lt_of_le hH.2.2.1 gr7.size, hH.2.2.2.grown gr7 hH.2.2.2.size (fun g hg => by have := (owns_lt own5 g hg).1; omega)⟩ (fun hH => ?_)
                clear hK K gr7 at7 own5 hCN
                simp only [Act.put, List.setIfInBounds_toArray, List.set_cons_zero, List.set_cons_succ]
                have hCd := hCb.below hH.2.2.2
                refine wpAnyH_ready (rs := [11]) (by kernel_rfl) (by simp) ?_
                refine AllReadyH.cons rfl (fun K hK => ?_) AllReadyH.nil
                refine step_appX Tryz.underlying27 Tryz.underlying27 gi0 gz0 gz1 gz2 rfl (by omega) (by omega) (.tmp 27) (.tmp 30) rfl rfl (w.heap.size + 1) (.slice a7 (k + 1) c7) (k + 1) _ (some ⟨g, k * 2, none⟩) 0 (c - k) ((hcells es).drop (k * 2)) rfl rfl own7 hCd H1b (by omega) (by omega) ?_
                intro a8 c8 w8 own8 gr8 at8
                refine hK.out _ _ ⟨grown_cell gr8 hH.1 (fun e => by have := (owns_lt own7 _ e).1; omega), grown_cell gr8 hH.2.1 (fun e => by have := (owns_lt own7 _ e).1; omega), Nat.lt_of_lt_of_le hH.2.2.1 gr8.size, hH.2.2.2.grown gr8 hH.2.2.2.size (fun g hg => by have := (owns_lt own7 g hg).1; omega)⟩ (fun hH => ?_)
                clear hK K gr8 at8 own7 hCd
                simp only [Act.put, List.setIfInBounds_toArray, List.set_cons_zero, List.set_cons_succ]
                refine hTake (i := 12) (v := ?_) rfl (by kernel_rfl) (by kernel_rfl) (by kernel_rfl) (by rfl) ?_ hH ?_
                rotate_left
                · intro W hW; (try dsimp only at hW); go_simp <;> with_reducible rfl
                simp only [Act.put, List.setIfInBounds_toArray, List.set_cons_zero, List.set_cons_succ]
                refine wpAnyH_done (by kernel_rfl) ?_ _
                refine NoPanic.normal ?_
                have en : k + 1 + 0 = k + 1 := by omega
                simp only [en] at own8 ⊢
                rw [← hcells_take, ← hcut_drop es k (by have := HL.out; omega), ← hcells_append, ← hcells_append] at own8
                rw [← HI.out] at own8
                obtain ⟨g8, rfl⟩ := own_at own8 (by omega)
                have O8 := hid (owns_base (base' := B) own8 (by omega))
                have k8 := hid hH.2.2.2
                clear own8 hH
                go_wp2
                exact bodyPost_ret (v := .slice (some ⟨g8, 0, none⟩) (k + 1) c8) (by simp [results, Tryz.results54, go_sem]) rfl ⟨g8, k + 1, c8, rfl, O8.out, by omega, k8.out⟩
        · have kN : Below wq.heap.size wq (wq.alloc (.cells #[.int .i64 t, .int .i64 m] 55)) := (Below.refl _ _).alloc (Nat.le_refl _) _
          have hCN := new_hold wq t m 55
          go_simp
          refine hK.out _ _ ⟨keep_cell kN hH.1, keep_cell kN hH.2.1, Nat.lt_of_lt_of_le hH.2.2.1 kN.size, hH.2.2.2.trans (kN.mono hH.2.2.2.size)⟩ (fun hH => ?_)
          clear hK K
          clear kN
          refine wpAnyH_ready (rs := [0]) (by kernel_rfl) (by simp) ?_
          refine AllReadyH.cons rfl (fun K hK => ?_) AllReadyH.nil
          · have oE := owns_base (base' := w.heap.size + 1) (new_empty (wq.alloc (.cells #[.int .i64 t, .int .i64 m] 55)) 55 2) (by have := hH.2.2.1; omega)
            have kE : Below (wq.alloc (.cells #[.int .i64 t, .int .i64 m] 55)).heap.size (wq.alloc (.cells #[.int .i64 t, .int .i64 m] 55)) ((wq.alloc (.cells #[.int .i64 t, .int .i64 m] 55)).alloc (.cells #[] 55)) := (Below.refl _ _).alloc (Nat.le_refl _) _
            rw [show (wq.alloc (.cells #[.int .i64 t, .int .i64 m] 55)).heap.size = wq.heap.size + 1 by simp] at oE
            go_simp
            refine hK.out _ _ ⟨keep_cell kE hH.1, keep_cell kE hH.2.1, Nat.lt_of_lt_of_le hH.2.2.1 kE.size, hH.2.2.2.trans (kE.mono hH.2.2.2.size)⟩ (fun hH => ?_)
            clear hK K
            replace hCN := hCN.below kE
            clear kE
            refine wpAnyH_ready (rs := [4]) (by kernel_rfl) (by simp) ?_
            refine AllReadyH.cons rfl (fun K hK => ?_) AllReadyH.nil
            · have hCx := hCa.below hH.2.2.2
              refine step_appX Tryz.underlying27 Tryz.underlying27 gi0 gz0 gz1 gz2 rfl (by omega) (by omega) (.tmp 20) (.tmp 23) rfl rfl (w.heap.size + 1) (.slice (some ⟨wq.heap.size + 1, 0, none⟩) 0 0) 0 [] (some ⟨g, 0, none⟩) k c ((hcells es).take (k * 2)) rfl rfl oE hCx H1a (by omega) (by omega) ?_
              intro a5 c5 w5 own5 gr5 at5
              simp only [Nat.zero_add, List.nil_append] at own5 at5 ⊢
              replace hCN := cells_grown hCN gr5 (fun b off ha e => by cases ha; simp [Value.ownBlock] at e)
              refine hK.out _ _ ⟨grown_cell gr5 hH.1 (fun e => by have := (owns_lt oE _ e).1; omega), grown_cell gr5 hH.2.1 (fun e => by have := (owns_lt oE _ e).1; omega), Nat.lt_of_lt_of_le hH.2.2.1 gr5.size, hH.2.2.2.grown gr5 hH.2.2.2.size (fun g hg => by have := (owns_lt oE g hg).1; omega)⟩ (fun hH => ?_)
              clear hK K gr5 at5 oE hCx
              simp only [Act.put, List.setIfInBounds_toArray, List.set_cons_zero, List.set_cons_succ]
              refine wpAnyH_ready (rs := [7]) (by kernel_rfl) (by simp) ?_
              refine AllReadyH.cons rfl (fun K hK => ?_) AllReadyH.nil
              · refine step_appX Tryz.underlying27 Tryz.underlying27 gi0 gz0 gz1 gz2 rfl (by omega) (by omega) (.tmp 24) (.tmp 26) rfl rfl (w.heap.size + 1) (.slice a5 k c5) k ((hcells es).take (k * 2)) _ 1 1 (hcells [⟨t, m⟩]) rfl rfl own5 hCN (hcells_one' _) (by omega) (by omega) ?_
                intro a7 c7 w7 own7 gr7 at7
                refine hK.out _ _ ⟨grown_cell gr7 hH.1 (fun e => by have := (owns_lt own5 _ e).1; omega), grown_cell gr7 hH.2.1 (fun e => by have := (owns_lt own5 _ e).1; omega), Nat.lt_of_lt_of_le hH.2.2.1 gr7.size, hH.2.2.2.grown gr7 hH.2.2.2.size (fun g hg => by have := (owns_lt own5 g hg).1; omega)⟩ (fun hH => ?_)
                clear hK K gr7 at7 own5 hCN
                simp only [Act.put, List.setIfInBounds_toArray, List.set_cons_zero, List.set_cons_succ]
                have hCd := hCb.below hH.2.2.2
                refine wpAnyH_ready (rs := [11]) (by kernel_rfl) (by simp) ?_
                refine AllReadyH.cons rfl (fun K hK => ?_) AllReadyH.nil
                refine step_appX Tryz.underlying27 Tryz.underlying27 gi0 gz0 gz1 gz2 rfl (by omega) (by omega) (.tmp 27) (.tmp 30) rfl rfl (w.heap.size + 1) (.slice a7 (k + 1) c7) (k + 1) _ (some ⟨g, k * 2, none⟩) 0 (c - k) ((hcells es).drop (k * 2)) rfl rfl own7 hCd H1b (by omega) (by omega) ?_
                intro a8 c8 w8 own8 gr8 at8
                refine hK.out _ _ ⟨grown_cell gr8 hH.1 (fun e => by have := (owns_lt own7 _ e).1; omega), grown_cell gr8 hH.2.1 (fun e => by have := (owns_lt own7 _ e).1; omega), Nat.lt_of_lt_of_le hH.2.2.1 gr8.size, hH.2.2.2.grown gr8 hH.2.2.2.size (fun g hg => by have := (owns_lt own7 g hg).1; omega)⟩ (fun hH => ?_)
                clear hK K gr8 at8 own7 hCd
                simp only [Act.put, List.setIfInBounds_toArray, List.set_cons_zero, List.set_cons_succ]
                refine hTake (i := 12) (v := ?_) rfl (by kernel_rfl) (by kernel_rfl) (by kernel_rfl) (by rfl) ?_ hH ?_
                rotate_left
                · intro W hW; (try dsimp only at hW); go_simp <;> with_reducible rfl
                simp only [Act.put, List.setIfInBounds_toArray, List.set_cons_zero, List.set_cons_succ]
                refine wpAnyH_done (by kernel_rfl) ?_ _
                refine NoPanic.normal ?_
                have en : k + 1 + 0 = k + 1 := by omega
                simp only [en] at own8 ⊢
                rw [← hcells_take, ← hcut_drop es k (by have := HL.out; omega), ← hcells_append, ← hcells_append] at own8
                rw [← HI.out] at own8
                obtain ⟨g8, rfl⟩ := own_at own8 (by omega)
                have O8 := hid (owns_base (base' := B) own8 (by omega))
                have k8 := hid hH.2.2.2
                clear own8 hH
                go_wp2
                exact bodyPost_ret (v := .slice (some ⟨g8, 0, none⟩) (k + 1) c8) (by simp [results, Tryz.results54, go_sem]) rfl ⟨g8, k + 1, c8, rfl, O8.out, by omega, k8.out⟩
end Go.Proofs.YthfanfnbjldddaaGreat


/- TurnIndex of the model. -/
namespace Go.Proofs.YthfanfnbjldddaaGreat
open Go.RowKit

def Ch.offP (ps : List Ch.Hold) (key : Int) : List Ch.Hold := ps.filter fun p => p.m != key
theorem Ch.offP_yes {ps : List Ch.Hold} {key : Int} {k : Nat} (h : k < ps.length) (hc : ((ps.getD k Ch.Hold.zero).m != key) = true) : Ch.offP (ps.take (k + 1)) key = Ch.offP (ps.take k) key ++ [ps.getD k Ch.Hold.zero] := by
  unfold Ch.offP
  rw [Ch.take_snoc ps Ch.Hold.zero k h, List.filter_append]
  generalize ps.getD k Ch.Hold.zero = x at *
  rw [List.filter_cons_of_pos (p := fun p : Ch.Hold => p.m != key) hc]; rfl
theorem Ch.offP_no {ps : List Ch.Hold} {key : Int} {k : Nat} (h : k < ps.length) (hc : ((ps.getD k Ch.Hold.zero).m != key) = false) : Ch.offP (ps.take (k + 1)) key = Ch.offP (ps.take k) key := by
  unfold Ch.offP
  rw [Ch.take_snoc ps Ch.Hold.zero k h, List.filter_append]
  generalize ps.getD k Ch.Hold.zero = x at *
  rw [List.filter_cons_of_neg (p := fun p : Ch.Hold => p.m != key) (by rw [hc]; simp)]; simp
theorem Ch.turnL_no {ps : List Ch.Hold} {key nk nv : Int} : Ch.turnL ps key ⟨nk, false, nv⟩ = Ch.offP ps key := rfl
theorem Ch.turnL_yes {ps : List Ch.Hold} {key nk nv : Int} : Ch.turnL ps key ⟨nk, true, nv⟩ = Ch.insP (Ch.offP ps key) ⟨nv, key⟩ := by
  rw [Ch.insP_insE]
  · rfl
  · intro hm
    have := (List.mem_filter.1 hm).2
    simp at this

theorem Ch.there_next {ps : List Ch.Hold} {key : Int} {k : Nat} (h : k < ps.length) : Ch.thereP (ps.take (k + 1)) key = (Ch.thereP (ps.take k) key || (ps.getD k Ch.Hold.zero).m == key) := by
  unfold Ch.thereP
  rw [Ch.take_snoc ps Ch.Hold.zero k h, List.any_append]; simp
theorem Ch.right_next {ps : List Ch.Hold} {key v : Int} {k : Nat} (h : k < ps.length) : Ch.rightP (ps.take (k + 1)) key v = (Ch.rightP (ps.take k) key v || ((ps.getD k Ch.Hold.zero).m == key && (ps.getD k Ch.Hold.zero).t == v)) := by
  unfold Ch.rightP
  rw [Ch.take_snoc ps Ch.Hold.zero k h, List.any_append]; simp
theorem Ch.there_alone {ps : List Ch.Hold} {key : Int} {k : Nat} (hn : (Ch.keysOf ps).Nodup) (h : k < ps.length) (hk : (ps.getD k Ch.Hold.zero).m = key) : Ch.thereP (ps.take k) key = false := by
  unfold Ch.thereP
  rw [List.any_eq_false]
  intro p hp hc
  have hc : p.m = key := by simpa using hc
  have hp' : p.m ∈ Ch.keysOf (ps.take k) := List.mem_map.2 ⟨p, hp, rfl⟩
  obtain ⟨j, hj, he⟩ := (Ch.mem_keys (by omega)).1 hp'
  have := Ch.dup_found hj h (by rw [he, hc, hk])
  simp [Ch.ixDup, hn] at this

end Go.Proofs.YthfanfnbjldddaaGreat

