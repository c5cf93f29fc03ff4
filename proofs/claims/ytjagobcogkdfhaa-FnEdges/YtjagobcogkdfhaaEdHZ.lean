/- Several texts in one: EdF, EdH. -/
import Derived.Test.YtjagobcogkdfhaaEdA
import Derived.Test.YtjagobcogkdfhaaEdK
import Derived.Test.YtjagobcogkdfhaaLkE
import Derived.Test.YtjagobcogkdfhaaLkJ
import Derived.Laws.StructEq
import Derived.Test.YtjagobcogkdfhaaLkX
import Derived.Test.YtjagobcogkdfhaaLkEM
import Derived.Deep.DeepCutAuto


/- The model's l7Put: an edge in its place, once. -/
namespace Go.Proofs.Ytjagobcogkdfhaa
open Go.RowKit

theorem eqlEdge (c j c' j' : Int) (w : World) : (binOp .eql 46 (.agg #[.int .i64 c, .int .i64 j]) (.agg #[.int .i64 c', .int .i64 j'])).run Try.prog w = .ok (.bool (Ch.sameE ⟨c, j⟩ ⟨c', j'⟩)) w := by
  have hS : Try.prog.underlying 46 = some (.struct (Try.prog.fieldsOf 46)) := by kernel_rfl
  have hp : Try.prog.stoodInHeld 46 = false := by kernel_rfl
  have u2 := Try.underlying2
  have a2 := Try.isAgg2
  have z2 := Try.sizeOf2
  rw [run_eql_struct, show (10000 : Nat) = 9999 + 1 from rfl, run_equalIn_agg w 9999 46 _ _ hS hp]
  simp only [Program.fieldsOf, Try.underlying46]
  go_simp
  unfold Ch.sameE
  by_cases h1 : c = c' <;> by_cases h2 : j = j' <;> simp [h1, h2]
theorem cut_take {w : World} {a : Option Addr} {m : Nat} {xs : List Value} (h : CellsAt w a m xs) {k : Nat} (hk : k ≤ m) : CellsAt w a k (xs.take k) := by
  refine ⟨by rw [List.length_take, h.1]; omega, fun h0 => ?_⟩
  obtain ⟨b, off, ha, hc⟩ := h.2 (by omega)
  refine ⟨b, off, ha, fun i hi => ?_⟩
  rw [hc i (by omega), List.getElem?_take_of_lt hi]
theorem cut_drop {w : World} {b off m : Nat} {xs : List Value} (h : CellsAt w (some ⟨b, off, none⟩) m xs) {k : Nat} (hk : k ≤ m) : CellsAt w (some ⟨b, off + k, none⟩) (m - k) (xs.drop k) := by
  refine ⟨by rw [List.length_drop, h.1], fun hm => ?_⟩
  obtain ⟨b', off', ha, hc⟩ := h.2 (by omega)
  simp only [Option.some.injEq, Addr.mk.injEq, and_true] at ha
  obtain ⟨rfl, rfl⟩ := ha
  refine ⟨b, off + k, rfl, fun i hi => ?_⟩
  rw [List.getElem?_drop, Nat.add_assoc, hc _ (by omega)]
theorem hcut_drop (hs : List Ch.Hold) (k : Nat) (h : k ≤ hs.length) : hcells (hs.drop k) = (hcells hs).drop (k * 2) := by
  have e : hcells hs = hcells (hs.take k) ++ hcells (hs.drop k) := by rw [← hcells_append, List.take_append_drop]
  have e2 : (hcells (hs.take k)).length = k * 2 := by rw [hcells_len]; simp; omega
  rw [e, ← e2, List.drop_left]
theorem new_empty (V : World) (e : TypeId) (size : Nat) : (V.alloc (.cells #[] e)).ownsRow V.heap.size e size (.slice (some ⟨V.heap.size, 0, none⟩) 0 0) 0 [] := empty_own V _ e size (Nat.le_refl _)
theorem own_at {w : World} {base : Nat} {e : TypeId} {size : Nat} {a : Option Addr} {n c : Nat} {xs : List Value} (h : w.ownsRow base e size (.slice a n c) n xs) (h0 : 0 < n) : ∃ g, a = some ⟨g, 0, none⟩ := by
  rcases h.2 with ⟨hv, h1⟩ | ⟨g, cp, cur, hv, _⟩
  · omega
  · simp only [Value.slice.injEq] at hv; exact ⟨g, hv.1⟩

/-- What l7Put answers. -/
def PutD (B n : Nat) (es : List Ch.Hold) (t m : Int) (w : World) (e : Ending) (w' : World) : Prop :=
  ∃ g' n' c', e = .returned (.slice (some ⟨g', 0, none⟩) n' c') ∧ w'.ownsRow B 46 2 (.slice (some ⟨g', 0, none⟩) n' c') n' (hcells (Ch.insE es ⟨t, m⟩)) ∧ n' ≤ n + 1 ∧ Below w.heap.size w w'

set_option linter.unusedSimpArgs false in
set_option maxRecDepth 20000 in
set_option maxHeartbeats 8000000 in
theorem l7Put_any (B g n c : Nat) (es : List Ch.Hold) (t m : Int) (w : World) (own : w.ownsRow B 46 2 (.slice (some ⟨g, 0, none⟩) n c) n (hcells es)) (hn : n ≤ 1048576) (hB : B ≤ w.heap.size) :
    Calls Try.prog 160 #[.slice (some ⟨g, 0, none⟩) n c, .agg #[.int .i64 t, .int .i64 m]] w fun e w' => PutD B n es t m w e w' := by
  have h4 := owns_cells own
  have HL := h4.hlen
  have hcap := owns_cap own
  have hgl := (owns_lt own g rfl).2
  obtain ⟨j0, gi0, gz0, gz1, gz2⟩ := info_parts Try.info46
  have kA : Below w.heap.size w (w.alloc (.cells #[.int .i64 t, .int .i64 m] 46)) := (Below.refl _ _).alloc (Nat.le_refl _) _
  obtain ⟨y0, y1, _, _⟩ := row2 (heap_alloc_new w (.cells #[.int .i64 t, .int .i64 m] 46))
  have yl := lt_of_cell y0
  go_enter Try.func160, Try.ntmps160
  go_wp2
  go_loopw [5] (fun i wr => ∃ k : Nat, k ≤ n ∧ i = .int .i64 k ∧ Hid (∀ j, j < k → Ch.ltE (es.getD j Ch.Hold.zero) ⟨t, m⟩ = true) ∧ wr.cell? ⟨w.heap.size, 0, none⟩ = some (.int .i64 t) ∧ wr.cell? ⟨w.heap.size, 1, none⟩ = some (.int .i64 m) ∧ w.heap.size < wr.heap.size ∧ Below w.heap.size w wr) (fun i _ => n - (intOf i).toNat)
  case atStart => exact ⟨0, Nat.zero_le _, rfl, (fun j hj => by omega), y0, y1, yl, kA⟩
  case round =>
    clear y0 y1 yl kA
    obtain ⟨k, hk, rfl, HA, z0, z1, ll, hW⟩ := hrel
    by_cases hlt : k < n
    · have hkl : k < es.length := by have := HL.out; omega
      have HS := hid (fun he => Ch.step_all (p := fun j => Ch.ltE (es.getD j Ch.Hold.zero) ⟨t, m⟩) HA.out he)
      have HE := hid (fun he => Ch.insE_at (l := es) (e := ⟨t, m⟩) (k := k) (by omega) HA.out (fun _ => he))
      obtain ⟨b, off, hbo, q0, q1⟩ := (h4.below hW).hold hlt
      simp only [Option.some.injEq, Addr.mk.injEq, and_true] at hbo
      obtain ⟨rfl, rfl⟩ := hbo
      rw [Nat.zero_add] at q0 q1
      have hqb := lt_of_cell q0
      generalize es.getD k Ch.Hold.zero = r at *
      obtain ⟨rt, rm⟩ := r
      simp only at q0 q1
      by_cases h1 : rt < t
      · have d1 : decide (rt < t) = true := by simpa using h1
        replace HS := hid (HS.out (Ch.ltE_iff.2 (.inl h1)))
        clear HE
        go_wp2_with fail
        refine wp_region_noPanic ?_
        refine wp_region_held_drew (S := fun W' => W'.cell? ⟨w.heap.size, 0, none⟩ = some (.int .i64 t) ∧ W'.cell? ⟨w.heap.size, 1, none⟩ = some (.int .i64 m) ∧ W'.cell? ⟨g, k * 2, none⟩ = some (.int .i64 rt) ∧ W'.cell? ⟨g, k * 2 + 1, none⟩ = some (.int .i64 rm) ∧ w.heap.size < W'.heap.size ∧ Below w.heap.size w W') (by kernel_rfl) (⟨z0, z1, q0, q1, ll, hW.drew⟩) (fun hH => ?_)
        refine hTake (i := 0) (v := ?_) rfl (by kernel_rfl) (by kernel_rfl) (by kernel_rfl) (by rfl) ?_ hH ?_
        rotate_left
        · intro W hW; (try dsimp only at hW); go_simp <;> with_reducible rfl
        simp only [Act.put, List.setIfInBounds_toArray, List.set_cons_zero, List.set_cons_succ]
        refine hTake (i := 1) (v := ?_) rfl (by kernel_rfl) (by kernel_rfl) (by kernel_rfl) (by rfl) ?_ hH ?_
        rotate_left
        · intro W hW; (try dsimp only at hW); go_simp <;> with_reducible rfl
        simp only [Act.put, List.setIfInBounds_toArray, List.set_cons_zero, List.set_cons_succ]
        refine hTake (i := 2) (v := ?_) rfl (by kernel_rfl) (by kernel_rfl) (by kernel_rfl) (by rfl) ?_ hH ?_
        rotate_left
        · intro W hW; (try dsimp only at hW); go_simp <;> with_reducible rfl
        simp only [Act.put, List.setIfInBounds_toArray, List.set_cons_zero, List.set_cons_succ]
        refine hTake (i := 3) (v := ?_) rfl (by kernel_rfl) (by kernel_rfl) (by kernel_rfl) (by rfl) ?_ hH ?_
        rotate_left
        · intro W hW; (try dsimp only at hW); go_simp <;> with_reducible rfl
        simp only [Act.put, List.setIfInBounds_toArray, List.set_cons_zero, List.set_cons_succ]
        refine hTake (i := 4) (v := ?_) rfl (by kernel_rfl) (by kernel_rfl) (by kernel_rfl) (by rfl) ?_ hH ?_
        rotate_left
        · intro W hW; (try dsimp only at hW); go_simp <;> with_reducible rfl
        simp only [Act.put, List.setIfInBounds_toArray, List.set_cons_zero, List.set_cons_succ]
        refine hTake (i := 5) (v := ?_) rfl (by kernel_rfl) (by kernel_rfl) (by kernel_rfl) (by rfl) ?_ hH ?_
        rotate_left
        · intro W hW; (try dsimp only at hW); go_simp <;> with_reducible rfl
        simp only [Act.put, List.setIfInBounds_toArray, List.set_cons_zero, List.set_cons_succ]
        refine hTake (i := 6) (v := ?_) rfl (by kernel_rfl) (by kernel_rfl) (by kernel_rfl) (by rfl) ?_ hH ?_
        rotate_left
        · intro W hW; (try dsimp only at hW); go_simp <;> with_reducible rfl
        simp only [Act.put, List.setIfInBounds_toArray, List.set_cons_zero, List.set_cons_succ]
        refine hTake (i := 7) (v := ?_) rfl (by kernel_rfl) (by kernel_rfl) (by kernel_rfl) (by rfl) ?_ hH ?_
        rotate_left
        · intro W hW; (try dsimp only at hW); go_simp <;> with_reducible rfl
        simp only [Act.put, List.setIfInBounds_toArray, List.set_cons_zero, List.set_cons_succ]
        refine hTake (i := 8) (v := ?_) rfl (by kernel_rfl) (by kernel_rfl) (by kernel_rfl) (by rfl) ?_ hH ?_
        rotate_left
        · intro W hW; (try dsimp only at hW); go_simp <;> with_reducible rfl
        simp only [Act.put, List.setIfInBounds_toArray, List.set_cons_zero, List.set_cons_succ]
        refine hTake (i := 9) (v := ?_) rfl (by kernel_rfl) (by kernel_rfl) (by kernel_rfl) (by rfl) ?_ hH ?_
        rotate_left
        · intro W hW; (try dsimp only at hW); go_simp <;> with_reducible rfl
        simp only [Act.put, List.setIfInBounds_toArray, List.set_cons_zero, List.set_cons_succ]
        refine hTake (i := 10) (v := ?_) rfl (by kernel_rfl) (by kernel_rfl) (by kernel_rfl) (by rfl) ?_ hH ?_
        rotate_left
        · intro W hW; (try dsimp only at hW); go_simp <;> with_reducible rfl
        simp only [Act.put, List.setIfInBounds_toArray, List.set_cons_zero, List.set_cons_succ]
        refine hTake (i := 11) (v := ?_) rfl (by kernel_rfl) (by kernel_rfl) (by kernel_rfl) (by rfl) ?_ hH ?_
        rotate_left
        · intro W hW; (try dsimp only at hW); go_simp <;> with_reducible rfl
        simp only [Act.put, List.setIfInBounds_toArray, List.set_cons_zero, List.set_cons_succ]
        refine hTake (i := 12) (v := ?_) rfl (by kernel_rfl) (by kernel_rfl) (by kernel_rfl) (by rfl) ?_ hH ?_
        rotate_left
        · intro W hW; (try dsimp only at hW); go_simp <;> with_reducible rfl
        simp only [Act.put, List.setIfInBounds_toArray, List.set_cons_zero, List.set_cons_succ]
        refine hTake (i := 13) (v := ?_) rfl (by kernel_rfl) (by kernel_rfl) (by kernel_rfl) (by rfl) ?_ hH ?_
        rotate_left
        · intro W hW; (try dsimp only at hW); go_simp <;> with_reducible rfl
        simp only [Act.put, List.setIfInBounds_toArray, List.set_cons_zero, List.set_cons_succ]
        refine hSkip (i := 14) rfl (by kernel_rfl) (by kernel_rfl) (by kernel_rfl) (by rfl) hH ?_
        simp only [Act.put, List.setIfInBounds_toArray, List.set_cons_zero, List.set_cons_succ]
        refine hSkip (i := 15) rfl (by kernel_rfl) (by kernel_rfl) (by kernel_rfl) (by rfl) hH ?_
        simp only [Act.put, List.setIfInBounds_toArray, List.set_cons_zero, List.set_cons_succ]
        refine hSkip (i := 16) rfl (by kernel_rfl) (by kernel_rfl) (by kernel_rfl) (by rfl) hH ?_
        simp only [Act.put, List.setIfInBounds_toArray, List.set_cons_zero, List.set_cons_succ]
        refine hSkip (i := 17) rfl (by kernel_rfl) (by kernel_rfl) (by kernel_rfl) (by rfl) hH ?_
        simp only [Act.put, List.setIfInBounds_toArray, List.set_cons_zero, List.set_cons_succ]
        refine hSkip (i := 18) rfl (by kernel_rfl) (by kernel_rfl) (by kernel_rfl) (by rfl) hH ?_
        simp only [Act.put, List.setIfInBounds_toArray, List.set_cons_zero, List.set_cons_succ]
        refine hSkip (i := 19) rfl (by kernel_rfl) (by kernel_rfl) (by kernel_rfl) (by rfl) hH ?_
        simp only [Act.put, List.setIfInBounds_toArray, List.set_cons_zero, List.set_cons_succ]
        refine hSkip (i := 20) rfl (by kernel_rfl) (by kernel_rfl) (by kernel_rfl) (by rfl) hH ?_
        simp only [Act.put, List.setIfInBounds_toArray, List.set_cons_zero, List.set_cons_succ]
        refine hSkip (i := 21) rfl (by kernel_rfl) (by kernel_rfl) (by kernel_rfl) (by rfl) hH ?_
        simp only [Act.put, List.setIfInBounds_toArray, List.set_cons_zero, List.set_cons_succ]
        refine hSkip (i := 22) rfl (by kernel_rfl) (by kernel_rfl) (by kernel_rfl) (by rfl) hH ?_
        simp only [Act.put, List.setIfInBounds_toArray, List.set_cons_zero, List.set_cons_succ]
        refine hSkip (i := 23) rfl (by kernel_rfl) (by kernel_rfl) (by kernel_rfl) (by rfl) hH ?_
        simp only [Act.put, List.setIfInBounds_toArray, List.set_cons_zero, List.set_cons_succ]
        refine hSkip (i := 24) rfl (by kernel_rfl) (by kernel_rfl) (by kernel_rfl) (by rfl) hH ?_
        simp only [Act.put, List.setIfInBounds_toArray, List.set_cons_zero, List.set_cons_succ]
        refine hSkip (i := 25) rfl (by kernel_rfl) (by kernel_rfl) (by kernel_rfl) (by rfl) hH ?_
        simp only [Act.put, List.setIfInBounds_toArray, List.set_cons_zero, List.set_cons_succ]
        refine hSkip (i := 26) rfl (by kernel_rfl) (by kernel_rfl) (by kernel_rfl) (by rfl) hH ?_
        simp only [Act.put, List.setIfInBounds_toArray, List.set_cons_zero, List.set_cons_succ]
        refine hSkip (i := 27) rfl (by kernel_rfl) (by kernel_rfl) (by kernel_rfl) (by rfl) hH ?_
        simp only [Act.put, List.setIfInBounds_toArray, List.set_cons_zero, List.set_cons_succ]
        refine hSkip (i := 28) rfl (by kernel_rfl) (by kernel_rfl) (by kernel_rfl) (by rfl) hH ?_
        simp only [Act.put, List.setIfInBounds_toArray, List.set_cons_zero, List.set_cons_succ]
        refine hSkip (i := 29) rfl (by kernel_rfl) (by kernel_rfl) (by kernel_rfl) (by rfl) hH ?_
        simp only [Act.put, List.setIfInBounds_toArray, List.set_cons_zero, List.set_cons_succ]
        refine hSkip (i := 30) rfl (by kernel_rfl) (by kernel_rfl) (by kernel_rfl) (by rfl) hH ?_
        simp only [Act.put, List.setIfInBounds_toArray, List.set_cons_zero, List.set_cons_succ]
        refine hSkip (i := 31) rfl (by kernel_rfl) (by kernel_rfl) (by kernel_rfl) (by rfl) hH ?_
        simp only [Act.put, List.setIfInBounds_toArray, List.set_cons_zero, List.set_cons_succ]
        refine hTake (i := 32) (v := ?_) rfl (by kernel_rfl) (by kernel_rfl) (by kernel_rfl) (by rfl) ?_ hH ?_
        rotate_left
        · intro W hW; (try dsimp only at hW); go_simp <;> with_reducible rfl
        simp only [Act.put, List.setIfInBounds_toArray, List.set_cons_zero, List.set_cons_succ]
        refine hTake (i := 33) (v := ?_) rfl (by kernel_rfl) (by kernel_rfl) (by kernel_rfl) (by rfl) ?_ hH ?_
        rotate_left
        · intro W hW; (try dsimp only at hW); go_simp <;> with_reducible rfl
        simp only [Act.put, List.setIfInBounds_toArray, List.set_cons_zero, List.set_cons_succ]
        refine wpAnyH_done (by kernel_rfl) ?_ _
        refine NoPanic.normal ?_
        go_wp2
        go_roundw
        case rel => exact ⟨k + 1, by omega, by go_num, HS.out, hH.1, hH.2.1, hH.2.2.2.2.1, hH.2.2.2.2.2⟩
        case measure => simp [intOf]; omega
      have d1 : decide (rt < t) = false := by simpa using h1
      by_cases h2 : rt = t
      · subst h2
        have e2 : (rt == rt) = true := by simp
        by_cases h3 : rm < m
        · have d3 : decide (rm < m) = true := by simpa using h3
          replace HS := hid (HS.out (Ch.ltE_iff.2 (.inr ⟨rfl, h3⟩)))
          clear HE
          go_wp2_with fail
          refine wp_region_noPanic ?_
          refine wp_region_held_drew (S := fun W' => W'.cell? ⟨w.heap.size, 0, none⟩ = some (.int .i64 rt) ∧ W'.cell? ⟨w.heap.size, 1, none⟩ = some (.int .i64 m) ∧ W'.cell? ⟨g, k * 2, none⟩ = some (.int .i64 rt) ∧ W'.cell? ⟨g, k * 2 + 1, none⟩ = some (.int .i64 rm) ∧ w.heap.size < W'.heap.size ∧ Below w.heap.size w W') (by kernel_rfl) (⟨z0, z1, q0, q1, ll, hW.drew⟩) (fun hH => ?_)
          refine hTake (i := 0) (v := ?_) rfl (by kernel_rfl) (by kernel_rfl) (by kernel_rfl) (by rfl) ?_ hH ?_
          rotate_left
          · intro W hW; (try dsimp only at hW); go_simp <;> with_reducible rfl
          simp only [Act.put, List.setIfInBounds_toArray, List.set_cons_zero, List.set_cons_succ]
          refine hTake (i := 1) (v := ?_) rfl (by kernel_rfl) (by kernel_rfl) (by kernel_rfl) (by rfl) ?_ hH ?_
          rotate_left
          · intro W hW; (try dsimp only at hW); go_simp <;> with_reducible rfl
          simp only [Act.put, List.setIfInBounds_toArray, List.set_cons_zero, List.set_cons_succ]
          refine hTake (i := 2) (v := ?_) rfl (by kernel_rfl) (by kernel_rfl) (by kernel_rfl) (by rfl) ?_ hH ?_
          rotate_left
          · intro W hW; (try dsimp only at hW); go_simp <;> with_reducible rfl
          simp only [Act.put, List.setIfInBounds_toArray, List.set_cons_zero, List.set_cons_succ]
          refine hTake (i := 3) (v := ?_) rfl (by kernel_rfl) (by kernel_rfl) (by kernel_rfl) (by rfl) ?_ hH ?_
          rotate_left
          · intro W hW; (try dsimp only at hW); go_simp <;> with_reducible rfl
          simp only [Act.put, List.setIfInBounds_toArray, List.set_cons_zero, List.set_cons_succ]
          refine hTake (i := 4) (v := ?_) rfl (by kernel_rfl) (by kernel_rfl) (by kernel_rfl) (by rfl) ?_ hH ?_
          rotate_left
          · intro W hW; (try dsimp only at hW); go_simp <;> with_reducible rfl
          simp only [Act.put, List.setIfInBounds_toArray, List.set_cons_zero, List.set_cons_succ]
          refine hTake (i := 5) (v := ?_) rfl (by kernel_rfl) (by kernel_rfl) (by kernel_rfl) (by rfl) ?_ hH ?_
          rotate_left
          · intro W hW; (try dsimp only at hW); go_simp <;> with_reducible rfl
          simp only [Act.put, List.setIfInBounds_toArray, List.set_cons_zero, List.set_cons_succ]
          refine hTake (i := 6) (v := ?_) rfl (by kernel_rfl) (by kernel_rfl) (by kernel_rfl) (by rfl) ?_ hH ?_
          rotate_left
          · intro W hW; (try dsimp only at hW); go_simp <;> with_reducible rfl
          simp only [Act.put, List.setIfInBounds_toArray, List.set_cons_zero, List.set_cons_succ]
          refine hTake (i := 7) (v := ?_) rfl (by kernel_rfl) (by kernel_rfl) (by kernel_rfl) (by rfl) ?_ hH ?_
          rotate_left
          · intro W hW; (try dsimp only at hW); go_simp <;> with_reducible rfl
          simp only [Act.put, List.setIfInBounds_toArray, List.set_cons_zero, List.set_cons_succ]
          refine hTake (i := 8) (v := ?_) rfl (by kernel_rfl) (by kernel_rfl) (by kernel_rfl) (by rfl) ?_ hH ?_
          rotate_left
          · intro W hW; (try dsimp only at hW); go_simp <;> with_reducible rfl
          simp only [Act.put, List.setIfInBounds_toArray, List.set_cons_zero, List.set_cons_succ]
          refine hTake (i := 9) (v := ?_) rfl (by kernel_rfl) (by kernel_rfl) (by kernel_rfl) (by rfl) ?_ hH ?_
          rotate_left
          · intro W hW; (try dsimp only at hW); go_simp <;> with_reducible rfl
          simp only [Act.put, List.setIfInBounds_toArray, List.set_cons_zero, List.set_cons_succ]
          refine hTake (i := 10) (v := ?_) rfl (by kernel_rfl) (by kernel_rfl) (by kernel_rfl) (by rfl) ?_ hH ?_
          rotate_left
          · intro W hW; (try dsimp only at hW); go_simp <;> with_reducible rfl
          simp only [Act.put, List.setIfInBounds_toArray, List.set_cons_zero, List.set_cons_succ]
          refine hTake (i := 11) (v := ?_) rfl (by kernel_rfl) (by kernel_rfl) (by kernel_rfl) (by rfl) ?_ hH ?_
          rotate_left
          · intro W hW; (try dsimp only at hW); go_simp <;> with_reducible rfl
          simp only [Act.put, List.setIfInBounds_toArray, List.set_cons_zero, List.set_cons_succ]
          refine hTake (i := 12) (v := ?_) rfl (by kernel_rfl) (by kernel_rfl) (by kernel_rfl) (by rfl) ?_ hH ?_
          rotate_left
          · intro W hW; (try dsimp only at hW); go_simp <;> with_reducible rfl
          simp only [Act.put, List.setIfInBounds_toArray, List.set_cons_zero, List.set_cons_succ]
          refine hTake (i := 13) (v := ?_) rfl (by kernel_rfl) (by kernel_rfl) (by kernel_rfl) (by rfl) ?_ hH ?_
          rotate_left
          · intro W hW; (try dsimp only at hW); go_simp <;> with_reducible rfl
          simp only [Act.put, List.setIfInBounds_toArray, List.set_cons_zero, List.set_cons_succ]
          refine hTake (i := 14) (v := ?_) rfl (by kernel_rfl) (by kernel_rfl) (by kernel_rfl) (by rfl) ?_ hH ?_
          rotate_left
          · intro W hW; (try dsimp only at hW); go_simp <;> with_reducible rfl
          simp only [Act.put, List.setIfInBounds_toArray, List.set_cons_zero, List.set_cons_succ]
          refine hTake (i := 15) (v := ?_) rfl (by kernel_rfl) (by kernel_rfl) (by kernel_rfl) (by rfl) ?_ hH ?_
          rotate_left
          · intro W hW; (try dsimp only at hW); go_simp <;> with_reducible rfl
          simp only [Act.put, List.setIfInBounds_toArray, List.set_cons_zero, List.set_cons_succ]
          refine hTake (i := 16) (v := ?_) rfl (by kernel_rfl) (by kernel_rfl) (by kernel_rfl) (by rfl) ?_ hH ?_
          rotate_left
          · intro W hW; (try dsimp only at hW); go_simp <;> with_reducible rfl
          simp only [Act.put, List.setIfInBounds_toArray, List.set_cons_zero, List.set_cons_succ]
          refine hTake (i := 17) (v := ?_) rfl (by kernel_rfl) (by kernel_rfl) (by kernel_rfl) (by rfl) ?_ hH ?_
          rotate_left
          · intro W hW; (try dsimp only at hW); go_simp <;> with_reducible rfl
          simp only [Act.put, List.setIfInBounds_toArray, List.set_cons_zero, List.set_cons_succ]
          refine hTake (i := 18) (v := ?_) rfl (by kernel_rfl) (by kernel_rfl) (by kernel_rfl) (by rfl) ?_ hH ?_
          rotate_left
          · intro W hW; (try dsimp only at hW); go_simp <;> with_reducible rfl
          simp only [Act.put, List.setIfInBounds_toArray, List.set_cons_zero, List.set_cons_succ]
          refine hTake (i := 19) (v := ?_) rfl (by kernel_rfl) (by kernel_rfl) (by kernel_rfl) (by rfl) ?_ hH ?_
          rotate_left
          · intro W hW; (try dsimp only at hW); go_simp <;> with_reducible rfl
          simp only [Act.put, List.setIfInBounds_toArray, List.set_cons_zero, List.set_cons_succ]
          refine hTake (i := 20) (v := ?_) rfl (by kernel_rfl) (by kernel_rfl) (by kernel_rfl) (by rfl) ?_ hH ?_
          rotate_left
          · intro W hW; (try dsimp only at hW); go_simp <;> with_reducible rfl
          simp only [Act.put, List.setIfInBounds_toArray, List.set_cons_zero, List.set_cons_succ]
          refine hTake (i := 21) (v := ?_) rfl (by kernel_rfl) (by kernel_rfl) (by kernel_rfl) (by rfl) ?_ hH ?_
          rotate_left
          · intro W hW; (try dsimp only at hW); go_simp <;> with_reducible rfl
          simp only [Act.put, List.setIfInBounds_toArray, List.set_cons_zero, List.set_cons_succ]
          refine hTake (i := 22) (v := ?_) rfl (by kernel_rfl) (by kernel_rfl) (by kernel_rfl) (by rfl) ?_ hH ?_
          rotate_left
          · intro W hW; (try dsimp only at hW); go_simp <;> with_reducible rfl
          simp only [Act.put, List.setIfInBounds_toArray, List.set_cons_zero, List.set_cons_succ]
          refine hTake (i := 23) (v := ?_) rfl (by kernel_rfl) (by kernel_rfl) (by kernel_rfl) (by rfl) ?_ hH ?_
          rotate_left
          · intro W hW; (try dsimp only at hW); go_simp <;> with_reducible rfl
          simp only [Act.put, List.setIfInBounds_toArray, List.set_cons_zero, List.set_cons_succ]
          refine hTake (i := 24) (v := ?_) rfl (by kernel_rfl) (by kernel_rfl) (by kernel_rfl) (by rfl) ?_ hH ?_
          rotate_left
          · intro W hW; (try dsimp only at hW); go_simp <;> with_reducible rfl
          simp only [Act.put, List.setIfInBounds_toArray, List.set_cons_zero, List.set_cons_succ]
          refine hTake (i := 25) (v := ?_) rfl (by kernel_rfl) (by kernel_rfl) (by kernel_rfl) (by rfl) ?_ hH ?_
          rotate_left
          · intro W hW; (try dsimp only at hW); go_simp <;> with_reducible rfl
          simp only [Act.put, List.setIfInBounds_toArray, List.set_cons_zero, List.set_cons_succ]
          refine hTake (i := 26) (v := ?_) rfl (by kernel_rfl) (by kernel_rfl) (by kernel_rfl) (by rfl) ?_ hH ?_
          rotate_left
          · intro W hW; (try dsimp only at hW); go_simp <;> with_reducible rfl
          simp only [Act.put, List.setIfInBounds_toArray, List.set_cons_zero, List.set_cons_succ]
          refine hTake (i := 27) (v := ?_) rfl (by kernel_rfl) (by kernel_rfl) (by kernel_rfl) (by rfl) ?_ hH ?_
          rotate_left
          · intro W hW; (try dsimp only at hW); go_simp <;> with_reducible rfl
          simp only [Act.put, List.setIfInBounds_toArray, List.set_cons_zero, List.set_cons_succ]
          refine hTake (i := 28) (v := ?_) rfl (by kernel_rfl) (by kernel_rfl) (by kernel_rfl) (by rfl) ?_ hH ?_
          rotate_left
          · intro W hW; (try dsimp only at hW); go_simp <;> with_reducible rfl
          simp only [Act.put, List.setIfInBounds_toArray, List.set_cons_zero, List.set_cons_succ]
          refine hTake (i := 29) (v := ?_) rfl (by kernel_rfl) (by kernel_rfl) (by kernel_rfl) (by rfl) ?_ hH ?_
          rotate_left
          · intro W hW; (try dsimp only at hW); go_simp <;> with_reducible rfl
          simp only [Act.put, List.setIfInBounds_toArray, List.set_cons_zero, List.set_cons_succ]
          refine hTake (i := 30) (v := ?_) rfl (by kernel_rfl) (by kernel_rfl) (by kernel_rfl) (by rfl) ?_ hH ?_
          rotate_left
          · intro W hW; (try dsimp only at hW); go_simp <;> with_reducible rfl
          simp only [Act.put, List.setIfInBounds_toArray, List.set_cons_zero, List.set_cons_succ]
          refine hTake (i := 31) (v := ?_) rfl (by kernel_rfl) (by kernel_rfl) (by kernel_rfl) (by rfl) ?_ hH ?_
          rotate_left
          · intro W hW; (try dsimp only at hW); go_simp <;> with_reducible rfl
          simp only [Act.put, List.setIfInBounds_toArray, List.set_cons_zero, List.set_cons_succ]
          refine hTake (i := 32) (v := ?_) rfl (by kernel_rfl) (by kernel_rfl) (by kernel_rfl) (by rfl) ?_ hH ?_
          rotate_left
          · intro W hW; (try dsimp only at hW); go_simp <;> with_reducible rfl
          simp only [Act.put, List.setIfInBounds_toArray, List.set_cons_zero, List.set_cons_succ]
          refine hTake (i := 33) (v := ?_) rfl (by kernel_rfl) (by kernel_rfl) (by kernel_rfl) (by rfl) ?_ hH ?_
          rotate_left
          · intro W hW; (try dsimp only at hW); go_simp <;> with_reducible rfl
          simp only [Act.put, List.setIfInBounds_toArray, List.set_cons_zero, List.set_cons_succ]
          refine wpAnyH_done (by kernel_rfl) ?_ _
          refine NoPanic.normal ?_
          go_wp2
          go_roundw
          case rel => exact ⟨k + 1, by omega, by go_num, HS.out, hH.1, hH.2.1, hH.2.2.2.2.1, hH.2.2.2.2.2⟩
          case measure => simp [intOf]; omega
        · have d3 : decide (rm < m) = false := by simpa using h3
          replace HE := hid (HE.out (by simp [Ch.ltE, d3]))
          clear HS
          by_cases h5 : rm = m
          · subst h5
            have HI : Hid (Ch.insE es ⟨rt, rm⟩ = es) := by have := HE.out; rw [if_pos (by simp [Ch.sameE]; omega)] at this; exact this
            have sm : Ch.sameE ⟨rt, rm⟩ ⟨rt, rm⟩ = true := by simp [Ch.sameE]
            have heq := eqlEdge rt rm rt rm
            rw [sm] at heq
            go_wp2_with fail
            refine wp_region_noPanic ?_
            refine wp_region_held_drew (S := fun W' => W'.cell? ⟨w.heap.size, 0, none⟩ = some (.int .i64 rt) ∧ W'.cell? ⟨w.heap.size, 1, none⟩ = some (.int .i64 rm) ∧ W'.cell? ⟨g, k * 2, none⟩ = some (.int .i64 rt) ∧ W'.cell? ⟨g, k * 2 + 1, none⟩ = some (.int .i64 rm) ∧ w.heap.size < W'.heap.size ∧ Below w.heap.size w W') (by kernel_rfl) (⟨z0, z1, q0, q1, ll, hW.drew⟩) (fun hH => ?_)
            refine hTake (i := 0) (v := ?_) rfl (by kernel_rfl) (by kernel_rfl) (by kernel_rfl) (by rfl) ?_ hH ?_
            rotate_left
            · intro W hW; (try dsimp only at hW); go_simp <;> with_reducible rfl
            simp only [Act.put, List.setIfInBounds_toArray, List.set_cons_zero, List.set_cons_succ]
            refine hTake (i := 1) (v := ?_) rfl (by kernel_rfl) (by kernel_rfl) (by kernel_rfl) (by rfl) ?_ hH ?_
            rotate_left
            · intro W hW; (try dsimp only at hW); go_simp <;> with_reducible rfl
            simp only [Act.put, List.setIfInBounds_toArray, List.set_cons_zero, List.set_cons_succ]
            refine hTake (i := 2) (v := ?_) rfl (by kernel_rfl) (by kernel_rfl) (by kernel_rfl) (by rfl) ?_ hH ?_
            rotate_left
            · intro W hW; (try dsimp only at hW); go_simp <;> with_reducible rfl
            simp only [Act.put, List.setIfInBounds_toArray, List.set_cons_zero, List.set_cons_succ]
            refine hTake (i := 3) (v := ?_) rfl (by kernel_rfl) (by kernel_rfl) (by kernel_rfl) (by rfl) ?_ hH ?_
            rotate_left
            · intro W hW; (try dsimp only at hW); go_simp <;> with_reducible rfl
            simp only [Act.put, List.setIfInBounds_toArray, List.set_cons_zero, List.set_cons_succ]
            refine hTake (i := 4) (v := ?_) rfl (by kernel_rfl) (by kernel_rfl) (by kernel_rfl) (by rfl) ?_ hH ?_
            rotate_left
            · intro W hW; (try dsimp only at hW); go_simp <;> with_reducible rfl
            simp only [Act.put, List.setIfInBounds_toArray, List.set_cons_zero, List.set_cons_succ]
            refine hTake (i := 5) (v := ?_) rfl (by kernel_rfl) (by kernel_rfl) (by kernel_rfl) (by rfl) ?_ hH ?_
            rotate_left
            · intro W hW; (try dsimp only at hW); go_simp <;> with_reducible rfl
            simp only [Act.put, List.setIfInBounds_toArray, List.set_cons_zero, List.set_cons_succ]
            refine hTake (i := 6) (v := ?_) rfl (by kernel_rfl) (by kernel_rfl) (by kernel_rfl) (by rfl) ?_ hH ?_
            rotate_left
            · intro W hW; (try dsimp only at hW); go_simp <;> with_reducible rfl
            simp only [Act.put, List.setIfInBounds_toArray, List.set_cons_zero, List.set_cons_succ]
            refine hTake (i := 7) (v := ?_) rfl (by kernel_rfl) (by kernel_rfl) (by kernel_rfl) (by rfl) ?_ hH ?_
            rotate_left
            · intro W hW; (try dsimp only at hW); go_simp <;> with_reducible rfl
            simp only [Act.put, List.setIfInBounds_toArray, List.set_cons_zero, List.set_cons_succ]
            refine hTake (i := 8) (v := ?_) rfl (by kernel_rfl) (by kernel_rfl) (by kernel_rfl) (by rfl) ?_ hH ?_
            rotate_left
            · intro W hW; (try dsimp only at hW); go_simp <;> with_reducible rfl
            simp only [Act.put, List.setIfInBounds_toArray, List.set_cons_zero, List.set_cons_succ]
            refine hTake (i := 9) (v := ?_) rfl (by kernel_rfl) (by kernel_rfl) (by kernel_rfl) (by rfl) ?_ hH ?_
            rotate_left
            · intro W hW; (try dsimp only at hW); go_simp <;> with_reducible rfl
            simp only [Act.put, List.setIfInBounds_toArray, List.set_cons_zero, List.set_cons_succ]
            refine hTake (i := 10) (v := ?_) rfl (by kernel_rfl) (by kernel_rfl) (by kernel_rfl) (by rfl) ?_ hH ?_
            rotate_left
            · intro W hW; (try dsimp only at hW); go_simp <;> with_reducible rfl
            simp only [Act.put, List.setIfInBounds_toArray, List.set_cons_zero, List.set_cons_succ]
            refine hTake (i := 11) (v := ?_) rfl (by kernel_rfl) (by kernel_rfl) (by kernel_rfl) (by rfl) ?_ hH ?_
            rotate_left
            · intro W hW; (try dsimp only at hW); go_simp <;> with_reducible rfl
            simp only [Act.put, List.setIfInBounds_toArray, List.set_cons_zero, List.set_cons_succ]
            refine hTake (i := 12) (v := ?_) rfl (by kernel_rfl) (by kernel_rfl) (by kernel_rfl) (by rfl) ?_ hH ?_
            rotate_left
            · intro W hW; (try dsimp only at hW); go_simp <;> with_reducible rfl
            simp only [Act.put, List.setIfInBounds_toArray, List.set_cons_zero, List.set_cons_succ]
            refine hTake (i := 13) (v := ?_) rfl (by kernel_rfl) (by kernel_rfl) (by kernel_rfl) (by rfl) ?_ hH ?_
            rotate_left
            · intro W hW; (try dsimp only at hW); go_simp <;> with_reducible rfl
            simp only [Act.put, List.setIfInBounds_toArray, List.set_cons_zero, List.set_cons_succ]
            refine hTake (i := 14) (v := ?_) rfl (by kernel_rfl) (by kernel_rfl) (by kernel_rfl) (by rfl) ?_ hH ?_
            rotate_left
            · intro W hW; (try dsimp only at hW); go_simp <;> with_reducible rfl
            simp only [Act.put, List.setIfInBounds_toArray, List.set_cons_zero, List.set_cons_succ]
            refine hTake (i := 15) (v := ?_) rfl (by kernel_rfl) (by kernel_rfl) (by kernel_rfl) (by rfl) ?_ hH ?_
            rotate_left
            · intro W hW; (try dsimp only at hW); go_simp <;> with_reducible rfl
            simp only [Act.put, List.setIfInBounds_toArray, List.set_cons_zero, List.set_cons_succ]
            refine hTake (i := 16) (v := ?_) rfl (by kernel_rfl) (by kernel_rfl) (by kernel_rfl) (by rfl) ?_ hH ?_
            rotate_left
            · intro W hW; (try dsimp only at hW); go_simp <;> with_reducible rfl
            simp only [Act.put, List.setIfInBounds_toArray, List.set_cons_zero, List.set_cons_succ]
            refine hTake (i := 17) (v := ?_) rfl (by kernel_rfl) (by kernel_rfl) (by kernel_rfl) (by rfl) ?_ hH ?_
            rotate_left
            · intro W hW; (try dsimp only at hW); go_simp <;> with_reducible rfl
            simp only [Act.put, List.setIfInBounds_toArray, List.set_cons_zero, List.set_cons_succ]
            refine hTake (i := 18) (v := ?_) rfl (by kernel_rfl) (by kernel_rfl) (by kernel_rfl) (by rfl) ?_ hH ?_
            rotate_left
            · intro W hW; (try dsimp only at hW); go_simp <;> with_reducible rfl
            simp only [Act.put, List.setIfInBounds_toArray, List.set_cons_zero, List.set_cons_succ]
            refine hTake (i := 19) (v := ?_) rfl (by kernel_rfl) (by kernel_rfl) (by kernel_rfl) (by rfl) ?_ hH ?_
            rotate_left
            · intro W hW; (try dsimp only at hW); go_simp <;> with_reducible rfl
            simp only [Act.put, List.setIfInBounds_toArray, List.set_cons_zero, List.set_cons_succ]
            refine hTake (i := 20) (v := ?_) rfl (by kernel_rfl) (by kernel_rfl) (by kernel_rfl) (by rfl) ?_ hH ?_
            rotate_left
            · intro W hW; (try dsimp only at hW); go_simp <;> with_reducible rfl
            simp only [Act.put, List.setIfInBounds_toArray, List.set_cons_zero, List.set_cons_succ]
            refine hTake (i := 21) (v := ?_) rfl (by kernel_rfl) (by kernel_rfl) (by kernel_rfl) (by rfl) ?_ hH ?_
            rotate_left
            · intro W hW; (try dsimp only at hW); go_simp <;> with_reducible rfl
            simp only [Act.put, List.setIfInBounds_toArray, List.set_cons_zero, List.set_cons_succ]
            refine hTake (i := 22) (v := ?_) rfl (by kernel_rfl) (by kernel_rfl) (by kernel_rfl) (by rfl) ?_ hH ?_
            rotate_left
            · intro W hW; (try dsimp only at hW); go_simp <;> with_reducible rfl
            simp only [Act.put, List.setIfInBounds_toArray, List.set_cons_zero, List.set_cons_succ]
            refine hTake (i := 23) (v := ?_) rfl (by kernel_rfl) (by kernel_rfl) (by kernel_rfl) (by rfl) ?_ hH ?_
            rotate_left
            · intro W hW; (try dsimp only at hW); go_simp <;> with_reducible rfl
            simp only [Act.put, List.setIfInBounds_toArray, List.set_cons_zero, List.set_cons_succ]
            refine hTake (i := 24) (v := ?_) rfl (by kernel_rfl) (by kernel_rfl) (by kernel_rfl) (by rfl) ?_ hH ?_
            rotate_left
            · intro W hW; (try dsimp only at hW); go_simp <;> with_reducible rfl
            simp only [Act.put, List.setIfInBounds_toArray, List.set_cons_zero, List.set_cons_succ]
            refine hTake (i := 25) (v := ?_) rfl (by kernel_rfl) (by kernel_rfl) (by kernel_rfl) (by rfl) ?_ hH ?_
            rotate_left
            · intro W hW; (try dsimp only at hW); go_simp <;> with_reducible rfl
            simp only [Act.put, List.setIfInBounds_toArray, List.set_cons_zero, List.set_cons_succ]
            refine hTake (i := 26) (v := ?_) rfl (by kernel_rfl) (by kernel_rfl) (by kernel_rfl) (by rfl) ?_ hH ?_
            rotate_left
            · intro W hW; (try dsimp only at hW); go_simp <;> with_reducible rfl
            simp only [Act.put, List.setIfInBounds_toArray, List.set_cons_zero, List.set_cons_succ]
            refine hTake (i := 27) (v := ?_) rfl (by kernel_rfl) (by kernel_rfl) (by kernel_rfl) (by rfl) ?_ hH ?_
            rotate_left
            · intro W hW; (try dsimp only at hW); go_simp <;> with_reducible rfl
            simp only [Act.put, List.setIfInBounds_toArray, List.set_cons_zero, List.set_cons_succ]
            refine hTake (i := 28) (v := ?_) rfl (by kernel_rfl) (by kernel_rfl) (by kernel_rfl) (by rfl) ?_ hH ?_
            rotate_left
            · intro W hW; (try dsimp only at hW); go_simp <;> with_reducible rfl
            simp only [Act.put, List.setIfInBounds_toArray, List.set_cons_zero, List.set_cons_succ]
            refine hTake (i := 29) (v := ?_) rfl (by kernel_rfl) (by kernel_rfl) (by kernel_rfl) (by rfl) ?_ hH ?_
            rotate_left
            · intro W hW; (try dsimp only at hW); go_simp <;> with_reducible rfl
            simp only [Act.put, List.setIfInBounds_toArray, List.set_cons_zero, List.set_cons_succ]
            refine hTake (i := 30) (v := ?_) rfl (by kernel_rfl) (by kernel_rfl) (by kernel_rfl) (by rfl) ?_ hH ?_
            rotate_left
            · intro W hW; (try dsimp only at hW); go_simp <;> with_reducible rfl
            simp only [Act.put, List.setIfInBounds_toArray, List.set_cons_zero, List.set_cons_succ]
            refine hTake (i := 31) (v := ?_) rfl (by kernel_rfl) (by kernel_rfl) (by kernel_rfl) (by rfl) ?_ hH ?_
            rotate_left
            · intro W hW; (try dsimp only at hW); go_simp <;> with_reducible rfl
            simp only [Act.put, List.setIfInBounds_toArray, List.set_cons_zero, List.set_cons_succ]
            refine hTake (i := 32) (v := ?_) rfl (by kernel_rfl) (by kernel_rfl) (by kernel_rfl) (by rfl) ?_ hH ?_
            rotate_left
            · intro W hW; (try dsimp only at hW); go_simp <;> with_reducible rfl
            simp only [Act.put, List.setIfInBounds_toArray, List.set_cons_zero, List.set_cons_succ]
            refine hTake (i := 33) (v := ?_) rfl (by kernel_rfl) (by kernel_rfl) (by kernel_rfl) (by rfl) ?_ hH ?_
            rotate_left
            · intro W hW; (try dsimp only at hW); go_simp <;> with_reducible rfl
            simp only [Act.put, List.setIfInBounds_toArray, List.set_cons_zero, List.set_cons_succ]
            refine wpAnyH_done (by kernel_rfl) ?_ _
            refine NoPanic.normal ?_
            have U0 := hH
            clear z0 z1 q0 q1 hW ll
            go_wp2_with fail
            refine wp_region_noPanic ?_
            refine wp_region_held_drew (S := fun W' => W'.cell? ⟨w.heap.size, 0, none⟩ = some (.int .i64 rt) ∧ W'.cell? ⟨w.heap.size, 1, none⟩ = some (.int .i64 rm) ∧ W'.cell? ⟨g, k * 2, none⟩ = some (.int .i64 rt) ∧ W'.cell? ⟨g, k * 2 + 1, none⟩ = some (.int .i64 rm) ∧ w.heap.size < W'.heap.size ∧ Below w.heap.size w W') (by kernel_rfl) (⟨hH.1, hH.2.1, hH.2.2.1, hH.2.2.2.1, hH.2.2.2.2.1, hH.2.2.2.2.2.drew⟩) (fun hH => ?_)
            refine hTake (i := 0) (v := ?_) rfl (by kernel_rfl) (by kernel_rfl) (by kernel_rfl) (by rfl) ?_ hH ?_
            rotate_left
            · intro W hW; (try dsimp only at hW); go_simp <;> with_reducible rfl
            simp only [Act.put, List.setIfInBounds_toArray, List.set_cons_zero, List.set_cons_succ]
            refine hTake (i := 1) (v := ?_) rfl (by kernel_rfl) (by kernel_rfl) (by kernel_rfl) (by rfl) ?_ hH ?_
            rotate_left
            · intro W hW; (try dsimp only at hW); go_simp <;> with_reducible rfl
            simp only [Act.put, List.setIfInBounds_toArray, List.set_cons_zero, List.set_cons_succ]
            refine hTake (i := 2) (v := ?_) rfl (by kernel_rfl) (by kernel_rfl) (by kernel_rfl) (by rfl) ?_ hH ?_
            rotate_left
            · intro W hW; (try dsimp only at hW); go_simp <;> with_reducible rfl
            simp only [Act.put, List.setIfInBounds_toArray, List.set_cons_zero, List.set_cons_succ]
            refine hTake (i := 3) (v := ?_) rfl (by kernel_rfl) (by kernel_rfl) (by kernel_rfl) (by rfl) ?_ hH ?_
            rotate_left
            · intro W hW; (try dsimp only at hW); go_simp <;> with_reducible rfl
            simp only [Act.put, List.setIfInBounds_toArray, List.set_cons_zero, List.set_cons_succ]
            refine hTake (i := 4) (v := ?_) rfl (by kernel_rfl) (by kernel_rfl) (by kernel_rfl) (by rfl) ?_ hH ?_
            rotate_left
            · intro W hW; (try dsimp only at hW); go_simp <;> with_reducible rfl
            simp only [Act.put, List.setIfInBounds_toArray, List.set_cons_zero, List.set_cons_succ]
            refine hTake (i := 5) (v := ?_) rfl (by kernel_rfl) (by kernel_rfl) (by kernel_rfl) (by rfl) ?_ hH ?_
            rotate_left
            · intro W hW; (try dsimp only at hW); go_simp <;> with_reducible rfl
            simp only [Act.put, List.setIfInBounds_toArray, List.set_cons_zero, List.set_cons_succ]
            refine hTake (i := 6) (v := ?_) rfl (by kernel_rfl) (by kernel_rfl) (by kernel_rfl) (by rfl) ?_ hH ?_
            rotate_left
            · intro W hW; (try dsimp only at hW); go_simp <;> with_reducible rfl
            simp only [Act.put, List.setIfInBounds_toArray, List.set_cons_zero, List.set_cons_succ]
            refine hTake (i := 7) (v := ?_) rfl (by kernel_rfl) (by kernel_rfl) (by kernel_rfl) (by rfl) ?_ hH ?_
            rotate_left
            · intro W hW; (try dsimp only at hW); go_simp <;> with_reducible rfl
            simp only [Act.put, List.setIfInBounds_toArray, List.set_cons_zero, List.set_cons_succ]
            refine hTake (i := 8) (v := ?_) rfl (by kernel_rfl) (by kernel_rfl) (by kernel_rfl) (by rfl) ?_ hH ?_
            rotate_left
            · intro W hW; (try dsimp only at hW); go_simp <;> with_reducible rfl
            simp only [Act.put, List.setIfInBounds_toArray, List.set_cons_zero, List.set_cons_succ]
            refine hTake (i := 9) (v := ?_) rfl (by kernel_rfl) (by kernel_rfl) (by kernel_rfl) (by rfl) ?_ hH ?_
            rotate_left
            · intro W hW; (try dsimp only at hW); go_simp <;> with_reducible rfl
            simp only [Act.put, List.setIfInBounds_toArray, List.set_cons_zero, List.set_cons_succ]
            refine hTake (i := 10) (v := ?_) rfl (by kernel_rfl) (by kernel_rfl) (by kernel_rfl) (by rfl) ?_ hH ?_
            rotate_left
            · intro W hW; (try dsimp only at hW); go_simp <;> with_reducible rfl
            simp only [Act.put, List.setIfInBounds_toArray, List.set_cons_zero, List.set_cons_succ]
            refine hTake (i := 11) (v := ?_) rfl (by kernel_rfl) (by kernel_rfl) (by kernel_rfl) (by rfl) ?_ hH ?_
            rotate_left
            · intro W hW; (try dsimp only at hW); go_simp <;> with_reducible rfl
            simp only [Act.put, List.setIfInBounds_toArray, List.set_cons_zero, List.set_cons_succ]
            refine wpAnyH_done (by kernel_rfl) ?_ _
            refine NoPanic.normal ?_
            go_wp2
            go_ret
            exact ⟨g, n, c, rfl, by rw [HI.out]; exact owns_below own hH.2.2.2.2.2, by omega, hH.2.2.2.2.2⟩
          · have sm : Ch.sameE ⟨rt, rm⟩ ⟨rt, m⟩ = false := by simp [Ch.sameE, h5]
            have HI : Hid (Ch.insE es ⟨rt, m⟩ = es.take k ++ [⟨rt, m⟩] ++ es.drop k) := by have := HE.out; rw [sm, Bool.and_false] at this; exact this
            have heq := eqlEdge rt rm rt m
            rw [sm] at heq
            go_wp2_with fail
            refine wp_region_noPanic ?_
            refine wp_region_held_drew (S := fun W' => W'.cell? ⟨w.heap.size, 0, none⟩ = some (.int .i64 rt) ∧ W'.cell? ⟨w.heap.size, 1, none⟩ = some (.int .i64 m) ∧ W'.cell? ⟨g, k * 2, none⟩ = some (.int .i64 rt) ∧ W'.cell? ⟨g, k * 2 + 1, none⟩ = some (.int .i64 rm) ∧ w.heap.size < W'.heap.size ∧ Below w.heap.size w W') (by kernel_rfl) (⟨z0, z1, q0, q1, ll, hW.drew⟩) (fun hH => ?_)
            refine hTake (i := 0) (v := ?_) rfl (by kernel_rfl) (by kernel_rfl) (by kernel_rfl) (by rfl) ?_ hH ?_
            rotate_left
            · intro W hW; (try dsimp only at hW); go_simp <;> with_reducible rfl
            simp only [Act.put, List.setIfInBounds_toArray, List.set_cons_zero, List.set_cons_succ]
            refine hTake (i := 1) (v := ?_) rfl (by kernel_rfl) (by kernel_rfl) (by kernel_rfl) (by rfl) ?_ hH ?_
            rotate_left
            · intro W hW; (try dsimp only at hW); go_simp <;> with_reducible rfl
            simp only [Act.put, List.setIfInBounds_toArray, List.set_cons_zero, List.set_cons_succ]
            refine hTake (i := 2) (v := ?_) rfl (by kernel_rfl) (by kernel_rfl) (by kernel_rfl) (by rfl) ?_ hH ?_
            rotate_left
            · intro W hW; (try dsimp only at hW); go_simp <;> with_reducible rfl
            simp only [Act.put, List.setIfInBounds_toArray, List.set_cons_zero, List.set_cons_succ]
            refine hTake (i := 3) (v := ?_) rfl (by kernel_rfl) (by kernel_rfl) (by kernel_rfl) (by rfl) ?_ hH ?_
            rotate_left
            · intro W hW; (try dsimp only at hW); go_simp <;> with_reducible rfl
            simp only [Act.put, List.setIfInBounds_toArray, List.set_cons_zero, List.set_cons_succ]
            refine hTake (i := 4) (v := ?_) rfl (by kernel_rfl) (by kernel_rfl) (by kernel_rfl) (by rfl) ?_ hH ?_
            rotate_left
            · intro W hW; (try dsimp only at hW); go_simp <;> with_reducible rfl
            simp only [Act.put, List.setIfInBounds_toArray, List.set_cons_zero, List.set_cons_succ]
            refine hTake (i := 5) (v := ?_) rfl (by kernel_rfl) (by kernel_rfl) (by kernel_rfl) (by rfl) ?_ hH ?_
            rotate_left
            · intro W hW; (try dsimp only at hW); go_simp <;> with_reducible rfl
            simp only [Act.put, List.setIfInBounds_toArray, List.set_cons_zero, List.set_cons_succ]
            refine hTake (i := 6) (v := ?_) rfl (by kernel_rfl) (by kernel_rfl) (by kernel_rfl) (by rfl) ?_ hH ?_
            rotate_left
            · intro W hW; (try dsimp only at hW); go_simp <;> with_reducible rfl
            simp only [Act.put, List.setIfInBounds_toArray, List.set_cons_zero, List.set_cons_succ]
            refine hTake (i := 7) (v := ?_) rfl (by kernel_rfl) (by kernel_rfl) (by kernel_rfl) (by rfl) ?_ hH ?_
            rotate_left
            · intro W hW; (try dsimp only at hW); go_simp <;> with_reducible rfl
            simp only [Act.put, List.setIfInBounds_toArray, List.set_cons_zero, List.set_cons_succ]
            refine hTake (i := 8) (v := ?_) rfl (by kernel_rfl) (by kernel_rfl) (by kernel_rfl) (by rfl) ?_ hH ?_
            rotate_left
            · intro W hW; (try dsimp only at hW); go_simp <;> with_reducible rfl
            simp only [Act.put, List.setIfInBounds_toArray, List.set_cons_zero, List.set_cons_succ]
            refine hTake (i := 9) (v := ?_) rfl (by kernel_rfl) (by kernel_rfl) (by kernel_rfl) (by rfl) ?_ hH ?_
            rotate_left
            · intro W hW; (try dsimp only at hW); go_simp <;> with_reducible rfl
            simp only [Act.put, List.setIfInBounds_toArray, List.set_cons_zero, List.set_cons_succ]
            refine hTake (i := 10) (v := ?_) rfl (by kernel_rfl) (by kernel_rfl) (by kernel_rfl) (by rfl) ?_ hH ?_
            rotate_left
            · intro W hW; (try dsimp only at hW); go_simp <;> with_reducible rfl
            simp only [Act.put, List.setIfInBounds_toArray, List.set_cons_zero, List.set_cons_succ]
            refine hTake (i := 11) (v := ?_) rfl (by kernel_rfl) (by kernel_rfl) (by kernel_rfl) (by rfl) ?_ hH ?_
            rotate_left
            · intro W hW; (try dsimp only at hW); go_simp <;> with_reducible rfl
            simp only [Act.put, List.setIfInBounds_toArray, List.set_cons_zero, List.set_cons_succ]
            refine hTake (i := 12) (v := ?_) rfl (by kernel_rfl) (by kernel_rfl) (by kernel_rfl) (by rfl) ?_ hH ?_
            rotate_left
            · intro W hW; (try dsimp only at hW); go_simp <;> with_reducible rfl
            simp only [Act.put, List.setIfInBounds_toArray, List.set_cons_zero, List.set_cons_succ]
            refine hTake (i := 13) (v := ?_) rfl (by kernel_rfl) (by kernel_rfl) (by kernel_rfl) (by rfl) ?_ hH ?_
            rotate_left
            · intro W hW; (try dsimp only at hW); go_simp <;> with_reducible rfl
            simp only [Act.put, List.setIfInBounds_toArray, List.set_cons_zero, List.set_cons_succ]
            refine hTake (i := 14) (v := ?_) rfl (by kernel_rfl) (by kernel_rfl) (by kernel_rfl) (by rfl) ?_ hH ?_
            rotate_left
            · intro W hW; (try dsimp only at hW); go_simp <;> with_reducible rfl
            simp only [Act.put, List.setIfInBounds_toArray, List.set_cons_zero, List.set_cons_succ]
            refine hTake (i := 15) (v := ?_) rfl (by kernel_rfl) (by kernel_rfl) (by kernel_rfl) (by rfl) ?_ hH ?_
            rotate_left
            · intro W hW; (try dsimp only at hW); go_simp <;> with_reducible rfl
            simp only [Act.put, List.setIfInBounds_toArray, List.set_cons_zero, List.set_cons_succ]
            refine hTake (i := 16) (v := ?_) rfl (by kernel_rfl) (by kernel_rfl) (by kernel_rfl) (by rfl) ?_ hH ?_
            rotate_left
            · intro W hW; (try dsimp only at hW); go_simp <;> with_reducible rfl
            simp only [Act.put, List.setIfInBounds_toArray, List.set_cons_zero, List.set_cons_succ]
            refine hTake (i := 17) (v := ?_) rfl (by kernel_rfl) (by kernel_rfl) (by kernel_rfl) (by rfl) ?_ hH ?_
            rotate_left
            · intro W hW; (try dsimp only at hW); go_simp <;> with_reducible rfl
            simp only [Act.put, List.setIfInBounds_toArray, List.set_cons_zero, List.set_cons_succ]
            refine hTake (i := 18) (v := ?_) rfl (by kernel_rfl) (by kernel_rfl) (by kernel_rfl) (by rfl) ?_ hH ?_
            rotate_left
            · intro W hW; (try dsimp only at hW); go_simp <;> with_reducible rfl
            simp only [Act.put, List.setIfInBounds_toArray, List.set_cons_zero, List.set_cons_succ]
            refine hTake (i := 19) (v := ?_) rfl (by kernel_rfl) (by kernel_rfl) (by kernel_rfl) (by rfl) ?_ hH ?_
            rotate_left
            · intro W hW; (try dsimp only at hW); go_simp <;> with_reducible rfl
            simp only [Act.put, List.setIfInBounds_toArray, List.set_cons_zero, List.set_cons_succ]
            refine hTake (i := 20) (v := ?_) rfl (by kernel_rfl) (by kernel_rfl) (by kernel_rfl) (by rfl) ?_ hH ?_
            rotate_left
            · intro W hW; (try dsimp only at hW); go_simp <;> with_reducible rfl
            simp only [Act.put, List.setIfInBounds_toArray, List.set_cons_zero, List.set_cons_succ]
            refine hTake (i := 21) (v := ?_) rfl (by kernel_rfl) (by kernel_rfl) (by kernel_rfl) (by rfl) ?_ hH ?_
            rotate_left
            · intro W hW; (try dsimp only at hW); go_simp <;> with_reducible rfl
            simp only [Act.put, List.setIfInBounds_toArray, List.set_cons_zero, List.set_cons_succ]
            refine hTake (i := 22) (v := ?_) rfl (by kernel_rfl) (by kernel_rfl) (by kernel_rfl) (by rfl) ?_ hH ?_
            rotate_left
            · intro W hW; (try dsimp only at hW); go_simp <;> with_reducible rfl
            simp only [Act.put, List.setIfInBounds_toArray, List.set_cons_zero, List.set_cons_succ]
            refine hTake (i := 23) (v := ?_) rfl (by kernel_rfl) (by kernel_rfl) (by kernel_rfl) (by rfl) ?_ hH ?_
            rotate_left
            · intro W hW; (try dsimp only at hW); go_simp <;> with_reducible rfl
            simp only [Act.put, List.setIfInBounds_toArray, List.set_cons_zero, List.set_cons_succ]
            refine hTake (i := 24) (v := ?_) rfl (by kernel_rfl) (by kernel_rfl) (by kernel_rfl) (by rfl) ?_ hH ?_
            rotate_left
            · intro W hW; (try dsimp only at hW); go_simp <;> with_reducible rfl
            simp only [Act.put, List.setIfInBounds_toArray, List.set_cons_zero, List.set_cons_succ]
            refine hTake (i := 25) (v := ?_) rfl (by kernel_rfl) (by kernel_rfl) (by kernel_rfl) (by rfl) ?_ hH ?_
            rotate_left
            · intro W hW; (try dsimp only at hW); go_simp <;> with_reducible rfl
            simp only [Act.put, List.setIfInBounds_toArray, List.set_cons_zero, List.set_cons_succ]
            refine hTake (i := 26) (v := ?_) rfl (by kernel_rfl) (by kernel_rfl) (by kernel_rfl) (by rfl) ?_ hH ?_
            rotate_left
            · intro W hW; (try dsimp only at hW); go_simp <;> with_reducible rfl
            simp only [Act.put, List.setIfInBounds_toArray, List.set_cons_zero, List.set_cons_succ]
            refine hTake (i := 27) (v := ?_) rfl (by kernel_rfl) (by kernel_rfl) (by kernel_rfl) (by rfl) ?_ hH ?_
            rotate_left
            · intro W hW; (try dsimp only at hW); go_simp <;> with_reducible rfl
            simp only [Act.put, List.setIfInBounds_toArray, List.set_cons_zero, List.set_cons_succ]
            refine hTake (i := 28) (v := ?_) rfl (by kernel_rfl) (by kernel_rfl) (by kernel_rfl) (by rfl) ?_ hH ?_
            rotate_left
            · intro W hW; (try dsimp only at hW); go_simp <;> with_reducible rfl
            simp only [Act.put, List.setIfInBounds_toArray, List.set_cons_zero, List.set_cons_succ]
            refine hTake (i := 29) (v := ?_) rfl (by kernel_rfl) (by kernel_rfl) (by kernel_rfl) (by rfl) ?_ hH ?_
            rotate_left
            · intro W hW; (try dsimp only at hW); go_simp <;> with_reducible rfl
            simp only [Act.put, List.setIfInBounds_toArray, List.set_cons_zero, List.set_cons_succ]
            refine hTake (i := 30) (v := ?_) rfl (by kernel_rfl) (by kernel_rfl) (by kernel_rfl) (by rfl) ?_ hH ?_
            rotate_left
            · intro W hW; (try dsimp only at hW); go_simp <;> with_reducible rfl
            simp only [Act.put, List.setIfInBounds_toArray, List.set_cons_zero, List.set_cons_succ]
            refine hTake (i := 31) (v := ?_) rfl (by kernel_rfl) (by kernel_rfl) (by kernel_rfl) (by rfl) ?_ hH ?_
            rotate_left
            · intro W hW; (try dsimp only at hW); go_simp <;> with_reducible rfl
            simp only [Act.put, List.setIfInBounds_toArray, List.set_cons_zero, List.set_cons_succ]
            refine hTake (i := 32) (v := ?_) rfl (by kernel_rfl) (by kernel_rfl) (by kernel_rfl) (by rfl) ?_ hH ?_
            rotate_left
            · intro W hW; (try dsimp only at hW); go_simp <;> with_reducible rfl
            simp only [Act.put, List.setIfInBounds_toArray, List.set_cons_zero, List.set_cons_succ]
            refine hTake (i := 33) (v := ?_) rfl (by kernel_rfl) (by kernel_rfl) (by kernel_rfl) (by rfl) ?_ hH ?_
            rotate_left
            · intro W hW; (try dsimp only at hW); go_simp <;> with_reducible rfl
            simp only [Act.put, List.setIfInBounds_toArray, List.set_cons_zero, List.set_cons_succ]
            refine wpAnyH_done (by kernel_rfl) ?_ _
            refine NoPanic.normal ?_
            clear z0 z1 q0 q1 hW ll
            go_wp2_with fail
            refine wp_region_noPanic ?_
            refine wp_region_held_drew (S := fun W' => W'.cell? ⟨w.heap.size, 0, none⟩ = some (.int .i64 rt) ∧ W'.cell? ⟨w.heap.size, 1, none⟩ = some (.int .i64 m) ∧ W'.cell? ⟨g, k * 2, none⟩ = some (.int .i64 rt) ∧ W'.cell? ⟨g, k * 2 + 1, none⟩ = some (.int .i64 rm) ∧ w.heap.size < W'.heap.size ∧ Below w.heap.size w W') (by kernel_rfl) (⟨hH.1, hH.2.1, hH.2.2.1, hH.2.2.2.1, hH.2.2.2.2.1, hH.2.2.2.2.2.drew⟩) (fun hH => ?_)
            refine hTake (i := 0) (v := ?_) rfl (by kernel_rfl) (by kernel_rfl) (by kernel_rfl) (by rfl) ?_ hH ?_
            rotate_left
            · intro W hW; (try dsimp only at hW); go_simp <;> with_reducible rfl
            simp only [Act.put, List.setIfInBounds_toArray, List.set_cons_zero, List.set_cons_succ]
            refine hTake (i := 1) (v := ?_) rfl (by kernel_rfl) (by kernel_rfl) (by kernel_rfl) (by rfl) ?_ hH ?_
            rotate_left
            · intro W hW; (try dsimp only at hW); go_simp <;> with_reducible rfl
            simp only [Act.put, List.setIfInBounds_toArray, List.set_cons_zero, List.set_cons_succ]
            refine hTake (i := 2) (v := ?_) rfl (by kernel_rfl) (by kernel_rfl) (by kernel_rfl) (by rfl) ?_ hH ?_
            rotate_left
            · intro W hW; (try dsimp only at hW); go_simp <;> with_reducible rfl
            simp only [Act.put, List.setIfInBounds_toArray, List.set_cons_zero, List.set_cons_succ]
            refine hTake (i := 3) (v := ?_) rfl (by kernel_rfl) (by kernel_rfl) (by kernel_rfl) (by rfl) ?_ hH ?_
            rotate_left
            · intro W hW; (try dsimp only at hW); go_simp <;> with_reducible rfl
            simp only [Act.put, List.setIfInBounds_toArray, List.set_cons_zero, List.set_cons_succ]
            refine hTake (i := 4) (v := ?_) rfl (by kernel_rfl) (by kernel_rfl) (by kernel_rfl) (by rfl) ?_ hH ?_
            rotate_left
            · intro W hW; (try dsimp only at hW); go_simp <;> with_reducible rfl
            simp only [Act.put, List.setIfInBounds_toArray, List.set_cons_zero, List.set_cons_succ]
            refine hTake (i := 5) (v := ?_) rfl (by kernel_rfl) (by kernel_rfl) (by kernel_rfl) (by rfl) ?_ hH ?_
            rotate_left
            · intro W hW; (try dsimp only at hW); go_simp <;> with_reducible rfl
            simp only [Act.put, List.setIfInBounds_toArray, List.set_cons_zero, List.set_cons_succ]
            refine hTake (i := 6) (v := ?_) rfl (by kernel_rfl) (by kernel_rfl) (by kernel_rfl) (by rfl) ?_ hH ?_
            rotate_left
            · intro W hW; (try dsimp only at hW); go_simp <;> with_reducible rfl
            simp only [Act.put, List.setIfInBounds_toArray, List.set_cons_zero, List.set_cons_succ]
            refine hTake (i := 7) (v := ?_) rfl (by kernel_rfl) (by kernel_rfl) (by kernel_rfl) (by rfl) ?_ hH ?_
            rotate_left
            · intro W hW; (try dsimp only at hW); go_simp <;> with_reducible rfl
            simp only [Act.put, List.setIfInBounds_toArray, List.set_cons_zero, List.set_cons_succ]
            refine hTake (i := 8) (v := ?_) rfl (by kernel_rfl) (by kernel_rfl) (by kernel_rfl) (by rfl) ?_ hH ?_
            rotate_left
            · intro W hW; (try dsimp only at hW); go_simp <;> with_reducible rfl
            simp only [Act.put, List.setIfInBounds_toArray, List.set_cons_zero, List.set_cons_succ]
            refine hTake (i := 9) (v := ?_) rfl (by kernel_rfl) (by kernel_rfl) (by kernel_rfl) (by rfl) ?_ hH ?_
            rotate_left
            · intro W hW; (try dsimp only at hW); go_simp <;> with_reducible rfl
            simp only [Act.put, List.setIfInBounds_toArray, List.set_cons_zero, List.set_cons_succ]
            refine hTake (i := 10) (v := ?_) rfl (by kernel_rfl) (by kernel_rfl) (by kernel_rfl) (by rfl) ?_ hH ?_
            rotate_left
            · intro W hW; (try dsimp only at hW); go_simp <;> with_reducible rfl
            simp only [Act.put, List.setIfInBounds_toArray, List.set_cons_zero, List.set_cons_succ]
            refine hTake (i := 11) (v := ?_) rfl (by kernel_rfl) (by kernel_rfl) (by kernel_rfl) (by rfl) ?_ hH ?_
            rotate_left
            · intro W hW; (try dsimp only at hW); go_simp <;> with_reducible rfl
            simp only [Act.put, List.setIfInBounds_toArray, List.set_cons_zero, List.set_cons_succ]
            refine wpAnyH_done (by kernel_rfl) ?_ _
            refine NoPanic.normal ?_
            go_wp2_with fail
            generalize wr.drew.drew = wp at *
            have hkc : k ≤ c := by omega
            have hck2 : ¬ c = k := by omega
            have H1a : ∀ u ∈ (hcells es).take (k * 2), u.oneCell' = true := fun u hu => hcells_one' es u (List.mem_of_mem_take hu)
            have H1b : ∀ u ∈ (hcells es).drop (k * 2), u.oneCell' = true := fun u hu => hcells_one' es u (List.mem_of_mem_drop hu)
            have hCa := cut_take h4 (k := k * 2) (by omega)
            have hCb : CellsAt w (some ⟨g, k * 2, none⟩) ((n - k) * 2) ((hcells es).drop (k * 2)) := by have := cut_drop h4 (k := k * 2) (by omega); rw [Nat.zero_add, ← Nat.sub_mul] at this; exact this
            refine wp_region_noPanic ?_
            refine wp_region_held_drew (S := fun W' => W'.cell? ⟨w.heap.size, 0, none⟩ = some (.int .i64 rt) ∧ W'.cell? ⟨w.heap.size, 1, none⟩ = some (.int .i64 m) ∧ W'.cell? ⟨g, k * 2, none⟩ = some (.int .i64 rt) ∧ W'.cell? ⟨g, k * 2 + 1, none⟩ = some (.int .i64 rm) ∧ w.heap.size < W'.heap.size ∧ Below w.heap.size w W') (by kernel_rfl) (⟨hH.1, hH.2.1, hH.2.2.1, hH.2.2.2.1, hH.2.2.2.2.1, hH.2.2.2.2.2.drew⟩) (fun hH => ?_)
            generalize wp.drew = wq at *
            refine hTake (i := 1) (v := ?_) rfl (by kernel_rfl) (by kernel_rfl) (by kernel_rfl) (by rfl) ?_ hH ?_
            rotate_left
            · intro W hW; (try dsimp only at hW); go_simp <;> with_reducible rfl
            simp only [Act.put, List.setIfInBounds_toArray, List.set_cons_zero, List.set_cons_succ]
            refine hTake (i := 2) (v := ?_) rfl (by kernel_rfl) (by kernel_rfl) (by kernel_rfl) (by rfl) ?_ hH ?_
            rotate_left
            · intro W hW; (try dsimp only at hW); go_simp <;> with_reducible rfl
            simp only [Act.put, List.setIfInBounds_toArray, List.set_cons_zero, List.set_cons_succ]
            refine hTake (i := 3) (v := ?_) rfl (by kernel_rfl) (by kernel_rfl) (by kernel_rfl) (by rfl) ?_ hH ?_
            rotate_left
            · intro W hW; (try dsimp only at hW); go_simp <;> with_reducible rfl
            simp only [Act.put, List.setIfInBounds_toArray, List.set_cons_zero, List.set_cons_succ]
            refine hTake (i := 5) (v := ?_) rfl (by kernel_rfl) (by kernel_rfl) (by kernel_rfl) (by rfl) ?_ hH ?_
            rotate_left
            · intro W hW; (try dsimp only at hW); go_simp <;> with_reducible rfl
            simp only [Act.put, List.setIfInBounds_toArray, List.set_cons_zero, List.set_cons_succ]
            refine hTake (i := 8) (v := ?_) rfl (by kernel_rfl) (by kernel_rfl) (by kernel_rfl) (by rfl) ?_ hH ?_
            rotate_left
            · intro W hW; (try dsimp only at hW); go_simp <;> with_reducible rfl
            simp only [Act.put, List.setIfInBounds_toArray, List.set_cons_zero, List.set_cons_succ]
            refine hTake (i := 9) (v := ?_) rfl (by kernel_rfl) (by kernel_rfl) (by kernel_rfl) (by rfl) ?_ hH ?_
            rotate_left
            · intro W hW; (try dsimp only at hW); go_simp <;> with_reducible rfl
            simp only [Act.put, List.setIfInBounds_toArray, List.set_cons_zero, List.set_cons_succ]
            refine hTake (i := 10) (v := ?_) rfl (by kernel_rfl) (by kernel_rfl) (by kernel_rfl) (by rfl) ?_ hH ?_
            rotate_left
            · intro W hW; (try dsimp only at hW); go_simp <;> with_reducible rfl
            simp only [Act.put, List.setIfInBounds_toArray, List.set_cons_zero, List.set_cons_succ]
            refine wpAnyH_ready (rs := [0, 6]) (by kernel_rfl) (by simp) ?_
            refine AllReadyH.cons rfl (fun K hK => ?_) (AllReadyH.cons rfl (fun K hK => ?_) AllReadyH.nil)
            · have oE := owns_base (base' := w.heap.size + 1) (new_empty wq 46 2) (by have := hH.2.2.2.2.1; omega)
              have kE : Below wq.heap.size wq (wq.alloc (.cells #[] 46)) := (Below.refl _ _).alloc (Nat.le_refl _) _
              go_simp
              refine hK.out _ _ ⟨keep_cell kE hH.1, keep_cell kE hH.2.1, keep_cell kE hH.2.2.1, keep_cell kE hH.2.2.2.1, Nat.lt_of_lt_of_le hH.2.2.2.2.1 kE.size, hH.2.2.2.2.2.trans (kE.mono hH.2.2.2.2.2.size)⟩ (fun hH => ?_)
              clear hK K
              clear kE
              refine wpAnyH_ready (rs := [4, 6]) (by kernel_rfl) (by simp) ?_
              refine AllReadyH.cons rfl (fun K hK => ?_) (AllReadyH.cons rfl (fun K hK => ?_) AllReadyH.nil)
              · have hCx := hCa.below hH.2.2.2.2.2
                refine step_appX Try.underlying38 Try.underlying38 gi0 gz0 gz1 gz2 rfl (by omega) (by omega) (.tmp 55) (.tmp 58) rfl rfl (w.heap.size + 1) (.slice (some ⟨wq.heap.size, 0, none⟩) 0 0) 0 [] (some ⟨g, 0, none⟩) k c ((hcells es).take (k * 2)) rfl rfl oE hCx H1a (by omega) (by omega) ?_
                intro a5 c5 w5 own5 gr5 at5
                simp only [Nat.zero_add, List.nil_append] at own5 at5 ⊢
                refine hK.out _ _ ⟨grown_cell gr5 hH.1 (fun e => by have := (owns_lt oE _ e).1; omega), grown_cell gr5 hH.2.1 (fun e => by have := (owns_lt oE _ e).1; omega), grown_cell gr5 hH.2.2.1 (fun e => by have := (owns_lt oE _ e).1; omega), grown_cell gr5 hH.2.2.2.1 (fun e => by have := (owns_lt oE _ e).1; omega), Nat.lt_of_lt_of_le hH.2.2.2.2.1 gr5.size, hH.2.2.2.2.2.grown gr5 hH.2.2.2.2.2.size (fun g hg => by have := (owns_lt oE g hg).1; omega)⟩ (fun hH => ?_)
                clear hK K gr5 at5 oE hCx
                simp only [Act.put, List.setIfInBounds_toArray, List.set_cons_zero, List.set_cons_succ]
                refine wpAnyH_ready (rs := [6]) (by kernel_rfl) (by simp) ?_
                refine AllReadyH.cons rfl (fun K hK => ?_) AllReadyH.nil
                · have kN : Below w5.heap.size w5 (w5.alloc (.cells #[.int .i64 rt, .int .i64 m] 46)) := (Below.refl _ _).alloc (Nat.le_refl _) _
                  have hCN := new_hold w5 rt m 46
                  go_simp
                  refine hK.out _ _ ⟨keep_cell kN hH.1, keep_cell kN hH.2.1, keep_cell kN hH.2.2.1, keep_cell kN hH.2.2.2.1, Nat.lt_of_lt_of_le hH.2.2.2.2.1 kN.size, hH.2.2.2.2.2.trans (kN.mono hH.2.2.2.2.2.size)⟩ (fun hH => ?_)
                  clear hK K
                  replace own5 := owns_below own5 kN
                  clear kN
                  refine wpAnyH_ready (rs := [7]) (by kernel_rfl) (by simp) ?_
                  refine AllReadyH.cons rfl (fun K hK => ?_) AllReadyH.nil
                  · refine step_appX Try.underlying38 Try.underlying38 gi0 gz0 gz1 gz2 rfl (by omega) (by omega) (.tmp 59) (.tmp 61) rfl rfl (w.heap.size + 1) (.slice a5 k c5) k ((hcells es).take (k * 2)) _ 1 1 (hcells [⟨rt, m⟩]) rfl rfl own5 hCN (hcells_one' _) (by omega) (by omega) ?_
                    intro a7 c7 w7 own7 gr7 at7
                    refine hK.out _ _ ⟨grown_cell gr7 hH.1 (fun e => by have := (owns_lt own5 _ e).1; omega), grown_cell gr7 hH.2.1 (fun e => by have := (owns_lt own5 _ e).1; omega), grown_cell gr7 hH.2.2.1 (fun e => by have := (owns_lt own5 _ e).1; omega), grown_cell gr7 hH.2.2.2.1 (fun e => by have := (owns_lt own5 _ e).1; omega), Nat.lt_of_lt_of_le hH.2.2.2.2.1 gr7.size, hH.2.2.2.2.2.grown gr7 hH.2.2.2.2.2.size (fun g hg => by have := (owns_lt own5 g hg).1; omega)⟩ (fun hH => ?_)
                    clear hK K gr7 at7 own5 hCN
                    simp only [Act.put, List.setIfInBounds_toArray, List.set_cons_zero, List.set_cons_succ]
                    have hCd := hCb.below hH.2.2.2.2.2
                    refine wpAnyH_ready (rs := [11]) (by kernel_rfl) (by simp) ?_
                    refine AllReadyH.cons rfl (fun K hK => ?_) AllReadyH.nil
                    refine step_appX Try.underlying38 Try.underlying38 gi0 gz0 gz1 gz2 rfl (by omega) (by omega) (.tmp 62) (.tmp 65) rfl rfl (w.heap.size + 1) (.slice a7 (k + 1) c7) (k + 1) _ (some ⟨g, k * 2, none⟩) (n - k) (c - k) ((hcells es).drop (k * 2)) rfl rfl own7 hCd H1b (by omega) (by omega) ?_
                    intro a8 c8 w8 own8 gr8 at8
                    refine hK.out _ _ ⟨grown_cell gr8 hH.1 (fun e => by have := (owns_lt own7 _ e).1; omega), grown_cell gr8 hH.2.1 (fun e => by have := (owns_lt own7 _ e).1; omega), grown_cell gr8 hH.2.2.1 (fun e => by have := (owns_lt own7 _ e).1; omega), grown_cell gr8 hH.2.2.2.1 (fun e => by have := (owns_lt own7 _ e).1; omega), Nat.lt_of_lt_of_le hH.2.2.2.2.1 gr8.size, hH.2.2.2.2.2.grown gr8 hH.2.2.2.2.2.size (fun g hg => by have := (owns_lt own7 g hg).1; omega)⟩ (fun hH => ?_)
                    clear hK K gr8 at8 own7 hCd
                    simp only [Act.put, List.setIfInBounds_toArray, List.set_cons_zero, List.set_cons_succ]
                    refine hTake (i := 12) (v := ?_) rfl (by kernel_rfl) (by kernel_rfl) (by kernel_rfl) (by rfl) ?_ hH ?_
                    rotate_left
                    · intro W hW; (try dsimp only at hW); go_simp <;> with_reducible rfl
                    simp only [Act.put, List.setIfInBounds_toArray, List.set_cons_zero, List.set_cons_succ]
                    refine wpAnyH_done (by kernel_rfl) ?_ _
                    refine NoPanic.normal ?_
                    have en : k + 1 + (n - k) = n + 1 := by omega
                    simp only [en] at own8 ⊢
                    rw [← hcells_take, ← hcut_drop es k (by have := HL.out; omega), ← hcells_append, ← hcells_append] at own8
                    rw [← HI.out] at own8
                    obtain ⟨g8, rfl⟩ := own_at own8 (by omega)
                    have O8 := hid (owns_base (base' := B) own8 (by omega))
                    have k8 := hid hH.2.2.2.2.2
                    clear own8 hH
                    go_wp2
                    exact bodyPost_ret (v := .slice (some ⟨g8, 0, none⟩) (n + 1) c8) (by simp [results, Try.results160, go_sem]) rfl ⟨g8, n + 1, c8, rfl, O8.out, by omega, k8.out⟩
              · have kN : Below (wq.alloc (.cells #[] 46)).heap.size (wq.alloc (.cells #[] 46)) ((wq.alloc (.cells #[] 46)).alloc (.cells #[.int .i64 rt, .int .i64 m] 46)) := (Below.refl _ _).alloc (Nat.le_refl _) _
                have hCN := new_hold (wq.alloc (.cells #[] 46)) rt m 46
                rw [show (wq.alloc (.cells #[] 46)).heap.size = wq.heap.size + 1 by simp] at hCN
                go_simp
                refine hK.out _ _ ⟨keep_cell kN hH.1, keep_cell kN hH.2.1, keep_cell kN hH.2.2.1, keep_cell kN hH.2.2.2.1, Nat.lt_of_lt_of_le hH.2.2.2.2.1 kN.size, hH.2.2.2.2.2.trans (kN.mono hH.2.2.2.2.2.size)⟩ (fun hH => ?_)
                clear hK K
                replace oE := owns_below oE kN
                clear kN
                refine wpAnyH_ready (rs := [4]) (by kernel_rfl) (by simp) ?_
                refine AllReadyH.cons rfl (fun K hK => ?_) AllReadyH.nil
                · have hCx := hCa.below hH.2.2.2.2.2
                  refine step_appX Try.underlying38 Try.underlying38 gi0 gz0 gz1 gz2 rfl (by omega) (by omega) (.tmp 55) (.tmp 58) rfl rfl (w.heap.size + 1) (.slice (some ⟨wq.heap.size, 0, none⟩) 0 0) 0 [] (some ⟨g, 0, none⟩) k c ((hcells es).take (k * 2)) rfl rfl oE hCx H1a (by omega) (by omega) ?_
                  intro a5 c5 w5 own5 gr5 at5
                  simp only [Nat.zero_add, List.nil_append] at own5 at5 ⊢
                  replace hCN := cells_grown hCN gr5 (fun b off ha e => by cases ha; simp [Value.ownBlock] at e)
                  refine hK.out _ _ ⟨grown_cell gr5 hH.1 (fun e => by have := (owns_lt oE _ e).1; omega), grown_cell gr5 hH.2.1 (fun e => by have := (owns_lt oE _ e).1; omega), grown_cell gr5 hH.2.2.1 (fun e => by have := (owns_lt oE _ e).1; omega), grown_cell gr5 hH.2.2.2.1 (fun e => by have := (owns_lt oE _ e).1; omega), Nat.lt_of_lt_of_le hH.2.2.2.2.1 gr5.size, hH.2.2.2.2.2.grown gr5 hH.2.2.2.2.2.size (fun g hg => by have := (owns_lt oE g hg).1; omega)⟩ (fun hH => ?_)
                  clear hK K gr5 at5 oE hCx
                  simp only [Act.put, List.setIfInBounds_toArray, List.set_cons_zero, List.set_cons_succ]
                  refine wpAnyH_ready (rs := [7]) (by kernel_rfl) (by simp) ?_
                  refine AllReadyH.cons rfl (fun K hK => ?_) AllReadyH.nil
                  · refine step_appX Try.underlying38 Try.underlying38 gi0 gz0 gz1 gz2 rfl (by omega) (by omega) (.tmp 59) (.tmp 61) rfl rfl (w.heap.size + 1) (.slice a5 k c5) k ((hcells es).take (k * 2)) _ 1 1 (hcells [⟨rt, m⟩]) rfl rfl own5 hCN (hcells_one' _) (by omega) (by omega) ?_
                    intro a7 c7 w7 own7 gr7 at7
                    refine hK.out _ _ ⟨grown_cell gr7 hH.1 (fun e => by have := (owns_lt own5 _ e).1; omega), grown_cell gr7 hH.2.1 (fun e => by have := (owns_lt own5 _ e).1; omega), grown_cell gr7 hH.2.2.1 (fun e => by have := (owns_lt own5 _ e).1; omega), grown_cell gr7 hH.2.2.2.1 (fun e => by have := (owns_lt own5 _ e).1; omega), Nat.lt_of_lt_of_le hH.2.2.2.2.1 gr7.size, hH.2.2.2.2.2.grown gr7 hH.2.2.2.2.2.size (fun g hg => by have := (owns_lt own5 g hg).1; omega)⟩ (fun hH => ?_)
                    clear hK K gr7 at7 own5 hCN
                    simp only [Act.put, List.setIfInBounds_toArray, List.set_cons_zero, List.set_cons_succ]
                    have hCd := hCb.below hH.2.2.2.2.2
                    refine wpAnyH_ready (rs := [11]) (by kernel_rfl) (by simp) ?_
                    refine AllReadyH.cons rfl (fun K hK => ?_) AllReadyH.nil
                    refine step_appX Try.underlying38 Try.underlying38 gi0 gz0 gz1 gz2 rfl (by omega) (by omega) (.tmp 62) (.tmp 65) rfl rfl (w.heap.size + 1) (.slice a7 (k + 1) c7) (k + 1) _ (some ⟨g, k * 2, none⟩) (n - k) (c - k) ((hcells es).drop (k * 2)) rfl rfl own7 hCd H1b (by omega) (by omega) ?_
                    intro a8 c8 w8 own8 gr8 at8
                    refine hK.out _ _ ⟨grown_cell gr8 hH.1 (fun e => by have := (owns_lt own7 _ e).1; omega), grown_cell gr8 hH.2.1 (fun e => by have := (owns_lt own7 _ e).1; omega), grown_cell gr8 hH.2.2.1 (fun e => by have := (owns_lt own7 _ e).1; omega), grown_cell gr8 hH.2.2.2.1 (fun e => by have := (owns_lt own7 _ e).1; omega), Nat.lt_of_lt_of_le hH.2.2.2.2.1 gr8.size, hH.2.2.2.2.2.grown gr8 hH.2.2.2.2.2.size (fun g hg => by have := (owns_lt own7 g hg).1; omega)⟩ (fun hH => ?_)
                    clear hK K gr8 at8 own7 hCd
                    simp only [Act.put, List.setIfInBounds_toArray, List.set_cons_zero, List.set_cons_succ]
                    refine hTake (i := 12) (v := ?_) rfl (by kernel_rfl) (by kernel_rfl) (by kernel_rfl) (by rfl) ?_ hH ?_
                    rotate_left
                    · intro W hW; (try dsimp only at hW); go_simp <;> with_reducible rfl
                    simp only [Act.put, List.setIfInBounds_toArray, List.set_cons_zero, List.set_cons_succ]
                    refine wpAnyH_done (by kernel_rfl) ?_ _
                    refine NoPanic.normal ?_
                    have en : k + 1 + (n - k) = n + 1 := by omega
                    simp only [en] at own8 ⊢
                    rw [← hcells_take, ← hcut_drop es k (by have := HL.out; omega), ← hcells_append, ← hcells_append] at own8
                    rw [← HI.out] at own8
                    obtain ⟨g8, rfl⟩ := own_at own8 (by omega)
                    have O8 := hid (owns_base (base' := B) own8 (by omega))
                    have k8 := hid hH.2.2.2.2.2
                    clear own8 hH
                    go_wp2
                    exact bodyPost_ret (v := .slice (some ⟨g8, 0, none⟩) (n + 1) c8) (by simp [results, Try.results160, go_sem]) rfl ⟨g8, n + 1, c8, rfl, O8.out, by omega, k8.out⟩
            · have kN : Below wq.heap.size wq (wq.alloc (.cells #[.int .i64 rt, .int .i64 m] 46)) := (Below.refl _ _).alloc (Nat.le_refl _) _
              have hCN := new_hold wq rt m 46
              go_simp
              refine hK.out _ _ ⟨keep_cell kN hH.1, keep_cell kN hH.2.1, keep_cell kN hH.2.2.1, keep_cell kN hH.2.2.2.1, Nat.lt_of_lt_of_le hH.2.2.2.2.1 kN.size, hH.2.2.2.2.2.trans (kN.mono hH.2.2.2.2.2.size)⟩ (fun hH => ?_)
              clear hK K
              clear kN
              refine wpAnyH_ready (rs := [0]) (by kernel_rfl) (by simp) ?_
              refine AllReadyH.cons rfl (fun K hK => ?_) AllReadyH.nil
              · have oE := owns_base (base' := w.heap.size + 1) (new_empty (wq.alloc (.cells #[.int .i64 rt, .int .i64 m] 46)) 46 2) (by have := hH.2.2.2.2.1; omega)
                have kE : Below (wq.alloc (.cells #[.int .i64 rt, .int .i64 m] 46)).heap.size (wq.alloc (.cells #[.int .i64 rt, .int .i64 m] 46)) ((wq.alloc (.cells #[.int .i64 rt, .int .i64 m] 46)).alloc (.cells #[] 46)) := (Below.refl _ _).alloc (Nat.le_refl _) _
                rw [show (wq.alloc (.cells #[.int .i64 rt, .int .i64 m] 46)).heap.size = wq.heap.size + 1 by simp] at oE
                go_simp
                refine hK.out _ _ ⟨keep_cell kE hH.1, keep_cell kE hH.2.1, keep_cell kE hH.2.2.1, keep_cell kE hH.2.2.2.1, Nat.lt_of_lt_of_le hH.2.2.2.2.1 kE.size, hH.2.2.2.2.2.trans (kE.mono hH.2.2.2.2.2.size)⟩ (fun hH => ?_)
                clear hK K
                replace hCN := hCN.below kE
                clear kE
                refine wpAnyH_ready (rs := [4]) (by kernel_rfl) (by simp) ?_
                refine AllReadyH.cons rfl (fun K hK => ?_) AllReadyH.nil
                · have hCx := hCa.below hH.2.2.2.2.2
                  refine step_appX Try.underlying38 Try.underlying38 gi0 gz0 gz1 gz2 rfl (by omega) (by omega) (.tmp 55) (.tmp 58) rfl rfl (w.heap.size + 1) (.slice (some ⟨wq.heap.size + 1, 0, none⟩) 0 0) 0 [] (some ⟨g, 0, none⟩) k c ((hcells es).take (k * 2)) rfl rfl oE hCx H1a (by omega) (by omega) ?_
                  intro a5 c5 w5 own5 gr5 at5
                  simp only [Nat.zero_add, List.nil_append] at own5 at5 ⊢
                  replace hCN := cells_grown hCN gr5 (fun b off ha e => by cases ha; simp [Value.ownBlock] at e)
                  refine hK.out _ _ ⟨grown_cell gr5 hH.1 (fun e => by have := (owns_lt oE _ e).1; omega), grown_cell gr5 hH.2.1 (fun e => by have := (owns_lt oE _ e).1; omega), grown_cell gr5 hH.2.2.1 (fun e => by have := (owns_lt oE _ e).1; omega), grown_cell gr5 hH.2.2.2.1 (fun e => by have := (owns_lt oE _ e).1; omega), Nat.lt_of_lt_of_le hH.2.2.2.2.1 gr5.size, hH.2.2.2.2.2.grown gr5 hH.2.2.2.2.2.size (fun g hg => by have := (owns_lt oE g hg).1; omega)⟩ (fun hH => ?_)
                  clear hK K gr5 at5 oE hCx
                  simp only [Act.put, List.setIfInBounds_toArray, List.set_cons_zero, List.set_cons_succ]
                  refine wpAnyH_ready (rs := [7]) (by kernel_rfl) (by simp) ?_
                  refine AllReadyH.cons rfl (fun K hK => ?_) AllReadyH.nil
                  · refine step_appX Try.underlying38 Try.underlying38 gi0 gz0 gz1 gz2 rfl (by omega) (by omega) (.tmp 59) (.tmp 61) rfl rfl (w.heap.size + 1) (.slice a5 k c5) k ((hcells es).take (k * 2)) _ 1 1 (hcells [⟨rt, m⟩]) rfl rfl own5 hCN (hcells_one' _) (by omega) (by omega) ?_
                    intro a7 c7 w7 own7 gr7 at7
                    refine hK.out _ _ ⟨grown_cell gr7 hH.1 (fun e => by have := (owns_lt own5 _ e).1; omega), grown_cell gr7 hH.2.1 (fun e => by have := (owns_lt own5 _ e).1; omega), grown_cell gr7 hH.2.2.1 (fun e => by have := (owns_lt own5 _ e).1; omega), grown_cell gr7 hH.2.2.2.1 (fun e => by have := (owns_lt own5 _ e).1; omega), Nat.lt_of_lt_of_le hH.2.2.2.2.1 gr7.size, hH.2.2.2.2.2.grown gr7 hH.2.2.2.2.2.size (fun g hg => by have := (owns_lt own5 g hg).1; omega)⟩ (fun hH => ?_)
                    clear hK K gr7 at7 own5 hCN
                    simp only [Act.put, List.setIfInBounds_toArray, List.set_cons_zero, List.set_cons_succ]
                    have hCd := hCb.below hH.2.2.2.2.2
                    refine wpAnyH_ready (rs := [11]) (by kernel_rfl) (by simp) ?_
                    refine AllReadyH.cons rfl (fun K hK => ?_) AllReadyH.nil
                    refine step_appX Try.underlying38 Try.underlying38 gi0 gz0 gz1 gz2 rfl (by omega) (by omega) (.tmp 62) (.tmp 65) rfl rfl (w.heap.size + 1) (.slice a7 (k + 1) c7) (k + 1) _ (some ⟨g, k * 2, none⟩) (n - k) (c - k) ((hcells es).drop (k * 2)) rfl rfl own7 hCd H1b (by omega) (by omega) ?_
                    intro a8 c8 w8 own8 gr8 at8
                    refine hK.out _ _ ⟨grown_cell gr8 hH.1 (fun e => by have := (owns_lt own7 _ e).1; omega), grown_cell gr8 hH.2.1 (fun e => by have := (owns_lt own7 _ e).1; omega), grown_cell gr8 hH.2.2.1 (fun e => by have := (owns_lt own7 _ e).1; omega), grown_cell gr8 hH.2.2.2.1 (fun e => by have := (owns_lt own7 _ e).1; omega), Nat.lt_of_lt_of_le hH.2.2.2.2.1 gr8.size, hH.2.2.2.2.2.grown gr8 hH.2.2.2.2.2.size (fun g hg => by have := (owns_lt own7 g hg).1; omega)⟩ (fun hH => ?_)
                    clear hK K gr8 at8 own7 hCd
                    simp only [Act.put, List.setIfInBounds_toArray, List.set_cons_zero, List.set_cons_succ]
                    refine hTake (i := 12) (v := ?_) rfl (by kernel_rfl) (by kernel_rfl) (by kernel_rfl) (by rfl) ?_ hH ?_
                    rotate_left
                    · intro W hW; (try dsimp only at hW); go_simp <;> with_reducible rfl
                    simp only [Act.put, List.setIfInBounds_toArray, List.set_cons_zero, List.set_cons_succ]
                    refine wpAnyH_done (by kernel_rfl) ?_ _
                    refine NoPanic.normal ?_
                    have en : k + 1 + (n - k) = n + 1 := by omega
                    simp only [en] at own8 ⊢
                    rw [← hcells_take, ← hcut_drop es k (by have := HL.out; omega), ← hcells_append, ← hcells_append] at own8
                    rw [← HI.out] at own8
                    obtain ⟨g8, rfl⟩ := own_at own8 (by omega)
                    have O8 := hid (owns_base (base' := B) own8 (by omega))
                    have k8 := hid hH.2.2.2.2.2
                    clear own8 hH
                    go_wp2
                    exact bodyPost_ret (v := .slice (some ⟨g8, 0, none⟩) (n + 1) c8) (by simp [results, Try.results160, go_sem]) rfl ⟨g8, n + 1, c8, rfl, O8.out, by omega, k8.out⟩
      · have e2 : (rt == t) = false := by simpa using h2
        have sm : Ch.sameE ⟨rt, rm⟩ ⟨t, m⟩ = false := by simp [Ch.sameE, h2]
        have HI : Hid (Ch.insE es ⟨t, m⟩ = es.take k ++ [⟨t, m⟩] ++ es.drop k) := by
          have := HE.out (by simp [Ch.ltE, d1, h2])
          rw [sm, Bool.and_false] at this; exact this
        have heq := eqlEdge rt rm t m
        rw [sm] at heq
        clear HS HE
        go_wp2_with fail
        refine wp_region_noPanic ?_
        refine wp_region_held_drew (S := fun W' => W'.cell? ⟨w.heap.size, 0, none⟩ = some (.int .i64 t) ∧ W'.cell? ⟨w.heap.size, 1, none⟩ = some (.int .i64 m) ∧ W'.cell? ⟨g, k * 2, none⟩ = some (.int .i64 rt) ∧ W'.cell? ⟨g, k * 2 + 1, none⟩ = some (.int .i64 rm) ∧ w.heap.size < W'.heap.size ∧ Below w.heap.size w W') (by kernel_rfl) (⟨z0, z1, q0, q1, ll, hW.drew⟩) (fun hH => ?_)
        refine hTake (i := 0) (v := ?_) rfl (by kernel_rfl) (by kernel_rfl) (by kernel_rfl) (by rfl) ?_ hH ?_
        rotate_left
        · intro W hW; (try dsimp only at hW); go_simp <;> with_reducible rfl
        simp only [Act.put, List.setIfInBounds_toArray, List.set_cons_zero, List.set_cons_succ]
        refine hTake (i := 1) (v := ?_) rfl (by kernel_rfl) (by kernel_rfl) (by kernel_rfl) (by rfl) ?_ hH ?_
        rotate_left
        · intro W hW; (try dsimp only at hW); go_simp <;> with_reducible rfl
        simp only [Act.put, List.setIfInBounds_toArray, List.set_cons_zero, List.set_cons_succ]
        refine hTake (i := 2) (v := ?_) rfl (by kernel_rfl) (by kernel_rfl) (by kernel_rfl) (by rfl) ?_ hH ?_
        rotate_left
        · intro W hW; (try dsimp only at hW); go_simp <;> with_reducible rfl
        simp only [Act.put, List.setIfInBounds_toArray, List.set_cons_zero, List.set_cons_succ]
        refine hTake (i := 3) (v := ?_) rfl (by kernel_rfl) (by kernel_rfl) (by kernel_rfl) (by rfl) ?_ hH ?_
        rotate_left
        · intro W hW; (try dsimp only at hW); go_simp <;> with_reducible rfl
        simp only [Act.put, List.setIfInBounds_toArray, List.set_cons_zero, List.set_cons_succ]
        refine hTake (i := 4) (v := ?_) rfl (by kernel_rfl) (by kernel_rfl) (by kernel_rfl) (by rfl) ?_ hH ?_
        rotate_left
        · intro W hW; (try dsimp only at hW); go_simp <;> with_reducible rfl
        simp only [Act.put, List.setIfInBounds_toArray, List.set_cons_zero, List.set_cons_succ]
        refine hTake (i := 5) (v := ?_) rfl (by kernel_rfl) (by kernel_rfl) (by kernel_rfl) (by rfl) ?_ hH ?_
        rotate_left
        · intro W hW; (try dsimp only at hW); go_simp <;> with_reducible rfl
        simp only [Act.put, List.setIfInBounds_toArray, List.set_cons_zero, List.set_cons_succ]
        refine hTake (i := 6) (v := ?_) rfl (by kernel_rfl) (by kernel_rfl) (by kernel_rfl) (by rfl) ?_ hH ?_
        rotate_left
        · intro W hW; (try dsimp only at hW); go_simp <;> with_reducible rfl
        simp only [Act.put, List.setIfInBounds_toArray, List.set_cons_zero, List.set_cons_succ]
        refine hTake (i := 7) (v := ?_) rfl (by kernel_rfl) (by kernel_rfl) (by kernel_rfl) (by rfl) ?_ hH ?_
        rotate_left
        · intro W hW; (try dsimp only at hW); go_simp <;> with_reducible rfl
        simp only [Act.put, List.setIfInBounds_toArray, List.set_cons_zero, List.set_cons_succ]
        refine hTake (i := 8) (v := ?_) rfl (by kernel_rfl) (by kernel_rfl) (by kernel_rfl) (by rfl) ?_ hH ?_
        rotate_left
        · intro W hW; (try dsimp only at hW); go_simp <;> with_reducible rfl
        simp only [Act.put, List.setIfInBounds_toArray, List.set_cons_zero, List.set_cons_succ]
        refine hTake (i := 9) (v := ?_) rfl (by kernel_rfl) (by kernel_rfl) (by kernel_rfl) (by rfl) ?_ hH ?_
        rotate_left
        · intro W hW; (try dsimp only at hW); go_simp <;> with_reducible rfl
        simp only [Act.put, List.setIfInBounds_toArray, List.set_cons_zero, List.set_cons_succ]
        refine hTake (i := 10) (v := ?_) rfl (by kernel_rfl) (by kernel_rfl) (by kernel_rfl) (by rfl) ?_ hH ?_
        rotate_left
        · intro W hW; (try dsimp only at hW); go_simp <;> with_reducible rfl
        simp only [Act.put, List.setIfInBounds_toArray, List.set_cons_zero, List.set_cons_succ]
        refine hTake (i := 11) (v := ?_) rfl (by kernel_rfl) (by kernel_rfl) (by kernel_rfl) (by rfl) ?_ hH ?_
        rotate_left
        · intro W hW; (try dsimp only at hW); go_simp <;> with_reducible rfl
        simp only [Act.put, List.setIfInBounds_toArray, List.set_cons_zero, List.set_cons_succ]
        refine hTake (i := 12) (v := ?_) rfl (by kernel_rfl) (by kernel_rfl) (by kernel_rfl) (by rfl) ?_ hH ?_
        rotate_left
        · intro W hW; (try dsimp only at hW); go_simp <;> with_reducible rfl
        simp only [Act.put, List.setIfInBounds_toArray, List.set_cons_zero, List.set_cons_succ]
        refine hTake (i := 13) (v := ?_) rfl (by kernel_rfl) (by kernel_rfl) (by kernel_rfl) (by rfl) ?_ hH ?_
        rotate_left
        · intro W hW; (try dsimp only at hW); go_simp <;> with_reducible rfl
        simp only [Act.put, List.setIfInBounds_toArray, List.set_cons_zero, List.set_cons_succ]
        refine hTake (i := 14) (v := ?_) rfl (by kernel_rfl) (by kernel_rfl) (by kernel_rfl) (by rfl) ?_ hH ?_
        rotate_left
        · intro W hW; (try dsimp only at hW); go_simp <;> with_reducible rfl
        simp only [Act.put, List.setIfInBounds_toArray, List.set_cons_zero, List.set_cons_succ]
        refine hTake (i := 15) (v := ?_) rfl (by kernel_rfl) (by kernel_rfl) (by kernel_rfl) (by rfl) ?_ hH ?_
        rotate_left
        · intro W hW; (try dsimp only at hW); go_simp <;> with_reducible rfl
        simp only [Act.put, List.setIfInBounds_toArray, List.set_cons_zero, List.set_cons_succ]
        refine hTake (i := 16) (v := ?_) rfl (by kernel_rfl) (by kernel_rfl) (by kernel_rfl) (by rfl) ?_ hH ?_
        rotate_left
        · intro W hW; (try dsimp only at hW); go_simp <;> with_reducible rfl
        simp only [Act.put, List.setIfInBounds_toArray, List.set_cons_zero, List.set_cons_succ]
        refine hTake (i := 17) (v := ?_) rfl (by kernel_rfl) (by kernel_rfl) (by kernel_rfl) (by rfl) ?_ hH ?_
        rotate_left
        · intro W hW; (try dsimp only at hW); go_simp <;> with_reducible rfl
        simp only [Act.put, List.setIfInBounds_toArray, List.set_cons_zero, List.set_cons_succ]
        refine hTake (i := 18) (v := ?_) rfl (by kernel_rfl) (by kernel_rfl) (by kernel_rfl) (by rfl) ?_ hH ?_
        rotate_left
        · intro W hW; (try dsimp only at hW); go_simp <;> with_reducible rfl
        simp only [Act.put, List.setIfInBounds_toArray, List.set_cons_zero, List.set_cons_succ]
        refine hTake (i := 19) (v := ?_) rfl (by kernel_rfl) (by kernel_rfl) (by kernel_rfl) (by rfl) ?_ hH ?_
        rotate_left
        · intro W hW; (try dsimp only at hW); go_simp <;> with_reducible rfl
        simp only [Act.put, List.setIfInBounds_toArray, List.set_cons_zero, List.set_cons_succ]
        refine hTake (i := 20) (v := ?_) rfl (by kernel_rfl) (by kernel_rfl) (by kernel_rfl) (by rfl) ?_ hH ?_
        rotate_left
        · intro W hW; (try dsimp only at hW); go_simp <;> with_reducible rfl
        simp only [Act.put, List.setIfInBounds_toArray, List.set_cons_zero, List.set_cons_succ]
        refine hTake (i := 21) (v := ?_) rfl (by kernel_rfl) (by kernel_rfl) (by kernel_rfl) (by rfl) ?_ hH ?_
        rotate_left
        · intro W hW; (try dsimp only at hW); go_simp <;> with_reducible rfl
        simp only [Act.put, List.setIfInBounds_toArray, List.set_cons_zero, List.set_cons_succ]
        refine hTake (i := 22) (v := ?_) rfl (by kernel_rfl) (by kernel_rfl) (by kernel_rfl) (by rfl) ?_ hH ?_
        rotate_left
        · intro W hW; (try dsimp only at hW); go_simp <;> with_reducible rfl
        simp only [Act.put, List.setIfInBounds_toArray, List.set_cons_zero, List.set_cons_succ]
        refine hSkip (i := 23) rfl (by kernel_rfl) (by kernel_rfl) (by kernel_rfl) (by rfl) hH ?_
        simp only [Act.put, List.setIfInBounds_toArray, List.set_cons_zero, List.set_cons_succ]
        refine hSkip (i := 24) rfl (by kernel_rfl) (by kernel_rfl) (by kernel_rfl) (by rfl) hH ?_
        simp only [Act.put, List.setIfInBounds_toArray, List.set_cons_zero, List.set_cons_succ]
        refine hSkip (i := 25) rfl (by kernel_rfl) (by kernel_rfl) (by kernel_rfl) (by rfl) hH ?_
        simp only [Act.put, List.setIfInBounds_toArray, List.set_cons_zero, List.set_cons_succ]
        refine hSkip (i := 26) rfl (by kernel_rfl) (by kernel_rfl) (by kernel_rfl) (by rfl) hH ?_
        simp only [Act.put, List.setIfInBounds_toArray, List.set_cons_zero, List.set_cons_succ]
        refine hSkip (i := 27) rfl (by kernel_rfl) (by kernel_rfl) (by kernel_rfl) (by rfl) hH ?_
        simp only [Act.put, List.setIfInBounds_toArray, List.set_cons_zero, List.set_cons_succ]
        refine hSkip (i := 28) rfl (by kernel_rfl) (by kernel_rfl) (by kernel_rfl) (by rfl) hH ?_
        simp only [Act.put, List.setIfInBounds_toArray, List.set_cons_zero, List.set_cons_succ]
        refine hSkip (i := 29) rfl (by kernel_rfl) (by kernel_rfl) (by kernel_rfl) (by rfl) hH ?_
        simp only [Act.put, List.setIfInBounds_toArray, List.set_cons_zero, List.set_cons_succ]
        refine hSkip (i := 30) rfl (by kernel_rfl) (by kernel_rfl) (by kernel_rfl) (by rfl) hH ?_
        simp only [Act.put, List.setIfInBounds_toArray, List.set_cons_zero, List.set_cons_succ]
        refine hTake (i := 31) (v := ?_) rfl (by kernel_rfl) (by kernel_rfl) (by kernel_rfl) (by rfl) ?_ hH ?_
        rotate_left
        · intro W hW; (try dsimp only at hW); go_simp <;> with_reducible rfl
        simp only [Act.put, List.setIfInBounds_toArray, List.set_cons_zero, List.set_cons_succ]
        refine hTake (i := 32) (v := ?_) rfl (by kernel_rfl) (by kernel_rfl) (by kernel_rfl) (by rfl) ?_ hH ?_
        rotate_left
        · intro W hW; (try dsimp only at hW); go_simp <;> with_reducible rfl
        simp only [Act.put, List.setIfInBounds_toArray, List.set_cons_zero, List.set_cons_succ]
        refine hTake (i := 33) (v := ?_) rfl (by kernel_rfl) (by kernel_rfl) (by kernel_rfl) (by rfl) ?_ hH ?_
        rotate_left
        · intro W hW; (try dsimp only at hW); go_simp <;> with_reducible rfl
        simp only [Act.put, List.setIfInBounds_toArray, List.set_cons_zero, List.set_cons_succ]
        refine wpAnyH_done (by kernel_rfl) ?_ _
        refine NoPanic.normal ?_
        clear z0 z1 q0 q1 hW ll
        go_wp2_with fail
        refine wp_region_noPanic ?_
        refine wp_region_held_drew (S := fun W' => W'.cell? ⟨w.heap.size, 0, none⟩ = some (.int .i64 t) ∧ W'.cell? ⟨w.heap.size, 1, none⟩ = some (.int .i64 m) ∧ W'.cell? ⟨g, k * 2, none⟩ = some (.int .i64 rt) ∧ W'.cell? ⟨g, k * 2 + 1, none⟩ = some (.int .i64 rm) ∧ w.heap.size < W'.heap.size ∧ Below w.heap.size w W') (by kernel_rfl) (⟨hH.1, hH.2.1, hH.2.2.1, hH.2.2.2.1, hH.2.2.2.2.1, hH.2.2.2.2.2.drew⟩) (fun hH => ?_)
        refine hTake (i := 0) (v := ?_) rfl (by kernel_rfl) (by kernel_rfl) (by kernel_rfl) (by rfl) ?_ hH ?_
        rotate_left
        · intro W hW; (try dsimp only at hW); go_simp <;> with_reducible rfl
        simp only [Act.put, List.setIfInBounds_toArray, List.set_cons_zero, List.set_cons_succ]
        refine hTake (i := 1) (v := ?_) rfl (by kernel_rfl) (by kernel_rfl) (by kernel_rfl) (by rfl) ?_ hH ?_
        rotate_left
        · intro W hW; (try dsimp only at hW); go_simp <;> with_reducible rfl
        simp only [Act.put, List.setIfInBounds_toArray, List.set_cons_zero, List.set_cons_succ]
        refine hTake (i := 2) (v := ?_) rfl (by kernel_rfl) (by kernel_rfl) (by kernel_rfl) (by rfl) ?_ hH ?_
        rotate_left
        · intro W hW; (try dsimp only at hW); go_simp <;> with_reducible rfl
        simp only [Act.put, List.setIfInBounds_toArray, List.set_cons_zero, List.set_cons_succ]
        refine hTake (i := 3) (v := ?_) rfl (by kernel_rfl) (by kernel_rfl) (by kernel_rfl) (by rfl) ?_ hH ?_
        rotate_left
        · intro W hW; (try dsimp only at hW); go_simp <;> with_reducible rfl
        simp only [Act.put, List.setIfInBounds_toArray, List.set_cons_zero, List.set_cons_succ]
        refine hTake (i := 4) (v := ?_) rfl (by kernel_rfl) (by kernel_rfl) (by kernel_rfl) (by rfl) ?_ hH ?_
        rotate_left
        · intro W hW; (try dsimp only at hW); go_simp <;> with_reducible rfl
        simp only [Act.put, List.setIfInBounds_toArray, List.set_cons_zero, List.set_cons_succ]
        refine hTake (i := 5) (v := ?_) rfl (by kernel_rfl) (by kernel_rfl) (by kernel_rfl) (by rfl) ?_ hH ?_
        rotate_left
        · intro W hW; (try dsimp only at hW); go_simp <;> with_reducible rfl
        simp only [Act.put, List.setIfInBounds_toArray, List.set_cons_zero, List.set_cons_succ]
        refine hTake (i := 6) (v := ?_) rfl (by kernel_rfl) (by kernel_rfl) (by kernel_rfl) (by rfl) ?_ hH ?_
        rotate_left
        · intro W hW; (try dsimp only at hW); go_simp <;> with_reducible rfl
        simp only [Act.put, List.setIfInBounds_toArray, List.set_cons_zero, List.set_cons_succ]
        refine hTake (i := 7) (v := ?_) rfl (by kernel_rfl) (by kernel_rfl) (by kernel_rfl) (by rfl) ?_ hH ?_
        rotate_left
        · intro W hW; (try dsimp only at hW); go_simp <;> with_reducible rfl
        simp only [Act.put, List.setIfInBounds_toArray, List.set_cons_zero, List.set_cons_succ]
        refine hTake (i := 8) (v := ?_) rfl (by kernel_rfl) (by kernel_rfl) (by kernel_rfl) (by rfl) ?_ hH ?_
        rotate_left
        · intro W hW; (try dsimp only at hW); go_simp <;> with_reducible rfl
        simp only [Act.put, List.setIfInBounds_toArray, List.set_cons_zero, List.set_cons_succ]
        refine hTake (i := 9) (v := ?_) rfl (by kernel_rfl) (by kernel_rfl) (by kernel_rfl) (by rfl) ?_ hH ?_
        rotate_left
        · intro W hW; (try dsimp only at hW); go_simp <;> with_reducible rfl
        simp only [Act.put, List.setIfInBounds_toArray, List.set_cons_zero, List.set_cons_succ]
        refine hTake (i := 10) (v := ?_) rfl (by kernel_rfl) (by kernel_rfl) (by kernel_rfl) (by rfl) ?_ hH ?_
        rotate_left
        · intro W hW; (try dsimp only at hW); go_simp <;> with_reducible rfl
        simp only [Act.put, List.setIfInBounds_toArray, List.set_cons_zero, List.set_cons_succ]
        refine hTake (i := 11) (v := ?_) rfl (by kernel_rfl) (by kernel_rfl) (by kernel_rfl) (by rfl) ?_ hH ?_
        rotate_left
        · intro W hW; (try dsimp only at hW); go_simp <;> with_reducible rfl
        simp only [Act.put, List.setIfInBounds_toArray, List.set_cons_zero, List.set_cons_succ]
        refine wpAnyH_done (by kernel_rfl) ?_ _
        refine NoPanic.normal ?_
        go_wp2_with fail
        generalize wr.drew.drew = wp at *
        have hkc : k ≤ c := by omega
        have hck2 : ¬ c = k := by omega
        have H1a : ∀ u ∈ (hcells es).take (k * 2), u.oneCell' = true := fun u hu => hcells_one' es u (List.mem_of_mem_take hu)
        have H1b : ∀ u ∈ (hcells es).drop (k * 2), u.oneCell' = true := fun u hu => hcells_one' es u (List.mem_of_mem_drop hu)
        have hCa := cut_take h4 (k := k * 2) (by omega)
        have hCb : CellsAt w (some ⟨g, k * 2, none⟩) ((n - k) * 2) ((hcells es).drop (k * 2)) := by have := cut_drop h4 (k := k * 2) (by omega); rw [Nat.zero_add, ← Nat.sub_mul] at this; exact this
        refine wp_region_noPanic ?_
        refine wp_region_held_drew (S := fun W' => W'.cell? ⟨w.heap.size, 0, none⟩ = some (.int .i64 t) ∧ W'.cell? ⟨w.heap.size, 1, none⟩ = some (.int .i64 m) ∧ W'.cell? ⟨g, k * 2, none⟩ = some (.int .i64 rt) ∧ W'.cell? ⟨g, k * 2 + 1, none⟩ = some (.int .i64 rm) ∧ w.heap.size < W'.heap.size ∧ Below w.heap.size w W') (by kernel_rfl) (⟨hH.1, hH.2.1, hH.2.2.1, hH.2.2.2.1, hH.2.2.2.2.1, hH.2.2.2.2.2.drew⟩) (fun hH => ?_)
        generalize wp.drew = wq at *
        refine hTake (i := 1) (v := ?_) rfl (by kernel_rfl) (by kernel_rfl) (by kernel_rfl) (by rfl) ?_ hH ?_
        rotate_left
        · intro W hW; (try dsimp only at hW); go_simp <;> with_reducible rfl
        simp only [Act.put, List.setIfInBounds_toArray, List.set_cons_zero, List.set_cons_succ]
        refine hTake (i := 2) (v := ?_) rfl (by kernel_rfl) (by kernel_rfl) (by kernel_rfl) (by rfl) ?_ hH ?_
        rotate_left
        · intro W hW; (try dsimp only at hW); go_simp <;> with_reducible rfl
        simp only [Act.put, List.setIfInBounds_toArray, List.set_cons_zero, List.set_cons_succ]
        refine hTake (i := 3) (v := ?_) rfl (by kernel_rfl) (by kernel_rfl) (by kernel_rfl) (by rfl) ?_ hH ?_
        rotate_left
        · intro W hW; (try dsimp only at hW); go_simp <;> with_reducible rfl
        simp only [Act.put, List.setIfInBounds_toArray, List.set_cons_zero, List.set_cons_succ]
        refine hTake (i := 5) (v := ?_) rfl (by kernel_rfl) (by kernel_rfl) (by kernel_rfl) (by rfl) ?_ hH ?_
        rotate_left
        · intro W hW; (try dsimp only at hW); go_simp <;> with_reducible rfl
        simp only [Act.put, List.setIfInBounds_toArray, List.set_cons_zero, List.set_cons_succ]
        refine hTake (i := 8) (v := ?_) rfl (by kernel_rfl) (by kernel_rfl) (by kernel_rfl) (by rfl) ?_ hH ?_
        rotate_left
        · intro W hW; (try dsimp only at hW); go_simp <;> with_reducible rfl
        simp only [Act.put, List.setIfInBounds_toArray, List.set_cons_zero, List.set_cons_succ]
        refine hTake (i := 9) (v := ?_) rfl (by kernel_rfl) (by kernel_rfl) (by kernel_rfl) (by rfl) ?_ hH ?_
        rotate_left
        · intro W hW; (try dsimp only at hW); go_simp <;> with_reducible rfl
        simp only [Act.put, List.setIfInBounds_toArray, List.set_cons_zero, List.set_cons_succ]
        refine hTake (i := 10) (v := ?_) rfl (by kernel_rfl) (by kernel_rfl) (by kernel_rfl) (by rfl) ?_ hH ?_
        rotate_left
        · intro W hW; (try dsimp only at hW); go_simp <;> with_reducible rfl
        simp only [Act.put, List.setIfInBounds_toArray, List.set_cons_zero, List.set_cons_succ]
        refine wpAnyH_ready (rs := [0, 6]) (by kernel_rfl) (by simp) ?_
        refine AllReadyH.cons rfl (fun K hK => ?_) (AllReadyH.cons rfl (fun K hK => ?_) AllReadyH.nil)
        · have oE := owns_base (base' := w.heap.size + 1) (new_empty wq 46 2) (by have := hH.2.2.2.2.1; omega)
          have kE : Below wq.heap.size wq (wq.alloc (.cells #[] 46)) := (Below.refl _ _).alloc (Nat.le_refl _) _
          go_simp
          refine hK.out _ _ ⟨keep_cell kE hH.1, keep_cell kE hH.2.1, keep_cell kE hH.2.2.1, keep_cell kE hH.2.2.2.1, Nat.lt_of_lt_of_le hH.2.2.2.2.1 kE.size, hH.2.2.2.2.2.trans (kE.mono hH.2.2.2.2.2.size)⟩ (fun hH => ?_)
          clear hK K
          clear kE
          refine wpAnyH_ready (rs := [4, 6]) (by kernel_rfl) (by simp) ?_
          refine AllReadyH.cons rfl (fun K hK => ?_) (AllReadyH.cons rfl (fun K hK => ?_) AllReadyH.nil)
          · have hCx := hCa.below hH.2.2.2.2.2
            refine step_appX Try.underlying38 Try.underlying38 gi0 gz0 gz1 gz2 rfl (by omega) (by omega) (.tmp 55) (.tmp 58) rfl rfl (w.heap.size + 1) (.slice (some ⟨wq.heap.size, 0, none⟩) 0 0) 0 [] (some ⟨g, 0, none⟩) k c ((hcells es).take (k * 2)) rfl rfl oE hCx H1a (by omega) (by omega) ?_
            intro a5 c5 w5 own5 gr5 at5
            simp only [Nat.zero_add, List.nil_append] at own5 at5 ⊢
            refine hK.out _ _ ⟨grown_cell gr5 hH.1 (fun e => by have := (owns_lt oE _ e).1; omega), grown_cell gr5 hH.2.1 (fun e => by have := (owns_lt oE _ e).1; omega), grown_cell gr5 hH.2.2.1 (fun e => by have := (owns_lt oE _ e).1; omega), grown_cell gr5 hH.2.2.2.1 (fun e => by have := (owns_lt oE _ e).1; omega), Nat.lt_of_lt_of_le hH.2.2.2.2.1 gr5.size, hH.2.2.2.2.2.grown gr5 hH.2.2.2.2.2.size (fun g hg => by have := (owns_lt oE g hg).1; omega)⟩ (fun hH => ?_)
            clear hK K gr5 at5 oE hCx
            simp only [Act.put, List.setIfInBounds_toArray, List.set_cons_zero, List.set_cons_succ]
            refine wpAnyH_ready (rs := [6]) (by kernel_rfl) (by simp) ?_
            refine AllReadyH.cons rfl (fun K hK => ?_) AllReadyH.nil
            · have kN : Below w5.heap.size w5 (w5.alloc (.cells #[.int .i64 t, .int .i64 m] 46)) := (Below.refl _ _).alloc (Nat.le_refl _) _
              have hCN := new_hold w5 t m 46
              go_simp
              refine hK.out _ _ ⟨keep_cell kN hH.1, keep_cell kN hH.2.1, keep_cell kN hH.2.2.1, keep_cell kN hH.2.2.2.1, Nat.lt_of_lt_of_le hH.2.2.2.2.1 kN.size, hH.2.2.2.2.2.trans (kN.mono hH.2.2.2.2.2.size)⟩ (fun hH => ?_)
              clear hK K
              replace own5 := owns_below own5 kN
              clear kN
              refine wpAnyH_ready (rs := [7]) (by kernel_rfl) (by simp) ?_
              refine AllReadyH.cons rfl (fun K hK => ?_) AllReadyH.nil
              · refine step_appX Try.underlying38 Try.underlying38 gi0 gz0 gz1 gz2 rfl (by omega) (by omega) (.tmp 59) (.tmp 61) rfl rfl (w.heap.size + 1) (.slice a5 k c5) k ((hcells es).take (k * 2)) _ 1 1 (hcells [⟨t, m⟩]) rfl rfl own5 hCN (hcells_one' _) (by omega) (by omega) ?_
                intro a7 c7 w7 own7 gr7 at7
                refine hK.out _ _ ⟨grown_cell gr7 hH.1 (fun e => by have := (owns_lt own5 _ e).1; omega), grown_cell gr7 hH.2.1 (fun e => by have := (owns_lt own5 _ e).1; omega), grown_cell gr7 hH.2.2.1 (fun e => by have := (owns_lt own5 _ e).1; omega), grown_cell gr7 hH.2.2.2.1 (fun e => by have := (owns_lt own5 _ e).1; omega), Nat.lt_of_lt_of_le hH.2.2.2.2.1 gr7.size, hH.2.2.2.2.2.grown gr7 hH.2.2.2.2.2.size (fun g hg => by have := (owns_lt own5 g hg).1; omega)⟩ (fun hH => ?_)
                clear hK K gr7 at7 own5 hCN
                simp only [Act.put, List.setIfInBounds_toArray, List.set_cons_zero, List.set_cons_succ]
                have hCd := hCb.below hH.2.2.2.2.2
                refine wpAnyH_ready (rs := [11]) (by kernel_rfl) (by simp) ?_
                refine AllReadyH.cons rfl (fun K hK => ?_) AllReadyH.nil
                refine step_appX Try.underlying38 Try.underlying38 gi0 gz0 gz1 gz2 rfl (by omega) (by omega) (.tmp 62) (.tmp 65) rfl rfl (w.heap.size + 1) (.slice a7 (k + 1) c7) (k + 1) _ (some ⟨g, k * 2, none⟩) (n - k) (c - k) ((hcells es).drop (k * 2)) rfl rfl own7 hCd H1b (by omega) (by omega) ?_
                intro a8 c8 w8 own8 gr8 at8
                refine hK.out _ _ ⟨grown_cell gr8 hH.1 (fun e => by have := (owns_lt own7 _ e).1; omega), grown_cell gr8 hH.2.1 (fun e => by have := (owns_lt own7 _ e).1; omega), grown_cell gr8 hH.2.2.1 (fun e => by have := (owns_lt own7 _ e).1; omega), grown_cell gr8 hH.2.2.2.1 (fun e => by have := (owns_lt own7 _ e).1; omega), Nat.lt_of_lt_of_le hH.2.2.2.2.1 gr8.size, hH.2.2.2.2.2.grown gr8 hH.2.2.2.2.2.size (fun g hg => by have := (owns_lt own7 g hg).1; omega)⟩ (fun hH => ?_)
                clear hK K gr8 at8 own7 hCd
                simp only [Act.put, List.setIfInBounds_toArray, List.set_cons_zero, List.set_cons_succ]
                refine hTake (i := 12) (v := ?_) rfl (by kernel_rfl) (by kernel_rfl) (by kernel_rfl) (by rfl) ?_ hH ?_
                rotate_left
                · intro W hW; (try dsimp only at hW); go_simp <;> with_reducible rfl
                simp only [Act.put, List.setIfInBounds_toArray, List.set_cons_zero, List.set_cons_succ]
                refine wpAnyH_done (by kernel_rfl) ?_ _
                refine NoPanic.normal ?_
                have en : k + 1 + (n - k) = n + 1 := by omega
                simp only [en] at own8 ⊢
                rw [← hcells_take, ← hcut_drop es k (by have := HL.out; omega), ← hcells_append, ← hcells_append] at own8
                rw [← HI.out] at own8
                obtain ⟨g8, rfl⟩ := own_at own8 (by omega)
                have O8 := hid (owns_base (base' := B) own8 (by omega))
                have k8 := hid hH.2.2.2.2.2
                clear own8 hH
                go_wp2
                exact bodyPost_ret (v := .slice (some ⟨g8, 0, none⟩) (n + 1) c8) (by simp [results, Try.results160, go_sem]) rfl ⟨g8, n + 1, c8, rfl, O8.out, by omega, k8.out⟩
          · have kN : Below (wq.alloc (.cells #[] 46)).heap.size (wq.alloc (.cells #[] 46)) ((wq.alloc (.cells #[] 46)).alloc (.cells #[.int .i64 t, .int .i64 m] 46)) := (Below.refl _ _).alloc (Nat.le_refl _) _
            have hCN := new_hold (wq.alloc (.cells #[] 46)) t m 46
            rw [show (wq.alloc (.cells #[] 46)).heap.size = wq.heap.size + 1 by simp] at hCN
            go_simp
            refine hK.out _ _ ⟨keep_cell kN hH.1, keep_cell kN hH.2.1, keep_cell kN hH.2.2.1, keep_cell kN hH.2.2.2.1, Nat.lt_of_lt_of_le hH.2.2.2.2.1 kN.size, hH.2.2.2.2.2.trans (kN.mono hH.2.2.2.2.2.size)⟩ (fun hH => ?_)
            clear hK K
            replace oE := owns_below oE kN
            clear kN
            refine wpAnyH_ready (rs := [4]) (by kernel_rfl) (by simp) ?_
            refine AllReadyH.cons rfl (fun K hK => ?_) AllReadyH.nil
            · have hCx := hCa.below hH.2.2.2.2.2
              refine step_appX Try.underlying38 Try.underlying38 gi0 gz0 gz1 gz2 rfl (by omega) (by omega) (.tmp 55) (.tmp 58) rfl rfl (w.heap.size + 1) (.slice (some ⟨wq.heap.size, 0, none⟩) 0 0) 0 [] (some ⟨g, 0, none⟩) k c ((hcells es).take (k * 2)) rfl rfl oE hCx H1a (by omega) (by omega) ?_
              intro a5 c5 w5 own5 gr5 at5
              simp only [Nat.zero_add, List.nil_append] at own5 at5 ⊢
              replace hCN := cells_grown hCN gr5 (fun b off ha e => by cases ha; simp [Value.ownBlock] at e)
              refine hK.out _ _ ⟨grown_cell gr5 hH.1 (fun e => by have := (owns_lt oE _ e).1; omega), grown_cell gr5 hH.2.1 (fun e => by have := (owns_lt oE _ e).1; omega), grown_cell gr5 hH.2.2.1 (fun e => by have := (owns_lt oE _ e).1; omega), grown_cell gr5 hH.2.2.2.1 (fun e => by have := (owns_lt oE _ e).1; omega), Nat.lt_of_lt_of_le hH.2.2.2.2.1 gr5.size, hH.2.2.2.2.2.grown gr5 hH.2.2.2.2.2.size (fun g hg => by have := (owns_lt oE g hg).1; omega)⟩ (fun hH => ?_)
              clear hK K gr5 at5 oE hCx
              simp only [Act.put, List.setIfInBounds_toArray, List.set_cons_zero, List.set_cons_succ]
              refine wpAnyH_ready (rs := [7]) (by kernel_rfl) (by simp) ?_
              refine AllReadyH.cons rfl (fun K hK => ?_) AllReadyH.nil
              · refine step_appX Try.underlying38 Try.underlying38 gi0 gz0 gz1 gz2 rfl (by omega) (by omega) (.tmp 59) (.tmp 61) rfl rfl (w.heap.size + 1) (.slice a5 k c5) k ((hcells es).take (k * 2)) _ 1 1 (hcells [⟨t, m⟩]) rfl rfl own5 hCN (hcells_one' _) (by omega) (by omega) ?_
                intro a7 c7 w7 own7 gr7 at7
                refine hK.out _ _ ⟨grown_cell gr7 hH.1 (fun e => by have := (owns_lt own5 _ e).1; omega), grown_cell gr7 hH.2.1 (fun e => by have := (owns_lt own5 _ e).1; omega), grown_cell gr7 hH.2.2.1 (fun e => by have := (owns_lt own5 _ e).1; omega), grown_cell gr7 hH.2.2.2.1 (fun e => by have := (owns_lt own5 _ e).1; omega), Nat.lt_of_lt_of_le hH.2.2.2.2.1 gr7.size, hH.2.2.2.2.2.grown gr7 hH.2.2.2.2.2.size (fun g hg => by have := (owns_lt own5 g hg).1; omega)⟩ (fun hH => ?_)
                clear hK K gr7 at7 own5 hCN
                simp only [Act.put, List.setIfInBounds_toArray, List.set_cons_zero, List.set_cons_succ]
                have hCd := hCb.below hH.2.2.2.2.2
                refine wpAnyH_ready (rs := [11]) (by kernel_rfl) (by simp) ?_
                refine AllReadyH.cons rfl (fun K hK => ?_) AllReadyH.nil
                refine step_appX Try.underlying38 Try.underlying38 gi0 gz0 gz1 gz2 rfl (by omega) (by omega) (.tmp 62) (.tmp 65) rfl rfl (w.heap.size + 1) (.slice a7 (k + 1) c7) (k + 1) _ (some ⟨g, k * 2, none⟩) (n - k) (c - k) ((hcells es).drop (k * 2)) rfl rfl own7 hCd H1b (by omega) (by omega) ?_
                intro a8 c8 w8 own8 gr8 at8
                refine hK.out _ _ ⟨grown_cell gr8 hH.1 (fun e => by have := (owns_lt own7 _ e).1; omega), grown_cell gr8 hH.2.1 (fun e => by have := (owns_lt own7 _ e).1; omega), grown_cell gr8 hH.2.2.1 (fun e => by have := (owns_lt own7 _ e).1; omega), grown_cell gr8 hH.2.2.2.1 (fun e => by have := (owns_lt own7 _ e).1; omega), Nat.lt_of_lt_of_le hH.2.2.2.2.1 gr8.size, hH.2.2.2.2.2.grown gr8 hH.2.2.2.2.2.size (fun g hg => by have := (owns_lt own7 g hg).1; omega)⟩ (fun hH => ?_)
                clear hK K gr8 at8 own7 hCd
                simp only [Act.put, List.setIfInBounds_toArray, List.set_cons_zero, List.set_cons_succ]
                refine hTake (i := 12) (v := ?_) rfl (by kernel_rfl) (by kernel_rfl) (by kernel_rfl) (by rfl) ?_ hH ?_
                rotate_left
                · intro W hW; (try dsimp only at hW); go_simp <;> with_reducible rfl
                simp only [Act.put, List.setIfInBounds_toArray, List.set_cons_zero, List.set_cons_succ]
                refine wpAnyH_done (by kernel_rfl) ?_ _
                refine NoPanic.normal ?_
                have en : k + 1 + (n - k) = n + 1 := by omega
                simp only [en] at own8 ⊢
                rw [← hcells_take, ← hcut_drop es k (by have := HL.out; omega), ← hcells_append, ← hcells_append] at own8
                rw [← HI.out] at own8
                obtain ⟨g8, rfl⟩ := own_at own8 (by omega)
                have O8 := hid (owns_base (base' := B) own8 (by omega))
                have k8 := hid hH.2.2.2.2.2
                clear own8 hH
                go_wp2
                exact bodyPost_ret (v := .slice (some ⟨g8, 0, none⟩) (n + 1) c8) (by simp [results, Try.results160, go_sem]) rfl ⟨g8, n + 1, c8, rfl, O8.out, by omega, k8.out⟩
        · have kN : Below wq.heap.size wq (wq.alloc (.cells #[.int .i64 t, .int .i64 m] 46)) := (Below.refl _ _).alloc (Nat.le_refl _) _
          have hCN := new_hold wq t m 46
          go_simp
          refine hK.out _ _ ⟨keep_cell kN hH.1, keep_cell kN hH.2.1, keep_cell kN hH.2.2.1, keep_cell kN hH.2.2.2.1, Nat.lt_of_lt_of_le hH.2.2.2.2.1 kN.size, hH.2.2.2.2.2.trans (kN.mono hH.2.2.2.2.2.size)⟩ (fun hH => ?_)
          clear hK K
          clear kN
          refine wpAnyH_ready (rs := [0]) (by kernel_rfl) (by simp) ?_
          refine AllReadyH.cons rfl (fun K hK => ?_) AllReadyH.nil
          · have oE := owns_base (base' := w.heap.size + 1) (new_empty (wq.alloc (.cells #[.int .i64 t, .int .i64 m] 46)) 46 2) (by have := hH.2.2.2.2.1; omega)
            have kE : Below (wq.alloc (.cells #[.int .i64 t, .int .i64 m] 46)).heap.size (wq.alloc (.cells #[.int .i64 t, .int .i64 m] 46)) ((wq.alloc (.cells #[.int .i64 t, .int .i64 m] 46)).alloc (.cells #[] 46)) := (Below.refl _ _).alloc (Nat.le_refl _) _
            rw [show (wq.alloc (.cells #[.int .i64 t, .int .i64 m] 46)).heap.size = wq.heap.size + 1 by simp] at oE
            go_simp
            refine hK.out _ _ ⟨keep_cell kE hH.1, keep_cell kE hH.2.1, keep_cell kE hH.2.2.1, keep_cell kE hH.2.2.2.1, Nat.lt_of_lt_of_le hH.2.2.2.2.1 kE.size, hH.2.2.2.2.2.trans (kE.mono hH.2.2.2.2.2.size)⟩ (fun hH => ?_)
            clear hK K
            replace hCN := hCN.below kE
            clear kE
            refine wpAnyH_ready (rs := [4]) (by kernel_rfl) (by simp) ?_
            refine AllReadyH.cons rfl (fun K hK => ?_) AllReadyH.nil
            · have hCx := hCa.below hH.2.2.2.2.2
              refine step_appX Try.underlying38 Try.underlying38 gi0 gz0 gz1 gz2 rfl (by omega) (by omega) (.tmp 55) (.tmp 58) rfl rfl (w.heap.size + 1) (.slice (some ⟨wq.heap.size + 1, 0, none⟩) 0 0) 0 [] (some ⟨g, 0, none⟩) k c ((hcells es).take (k * 2)) rfl rfl oE hCx H1a (by omega) (by omega) ?_
              intro a5 c5 w5 own5 gr5 at5
              simp only [Nat.zero_add, List.nil_append] at own5 at5 ⊢
              replace hCN := cells_grown hCN gr5 (fun b off ha e => by cases ha; simp [Value.ownBlock] at e)
              refine hK.out _ _ ⟨grown_cell gr5 hH.1 (fun e => by have := (owns_lt oE _ e).1; omega), grown_cell gr5 hH.2.1 (fun e => by have := (owns_lt oE _ e).1; omega), grown_cell gr5 hH.2.2.1 (fun e => by have := (owns_lt oE _ e).1; omega), grown_cell gr5 hH.2.2.2.1 (fun e => by have := (owns_lt oE _ e).1; omega), Nat.lt_of_lt_of_le hH.2.2.2.2.1 gr5.size, hH.2.2.2.2.2.grown gr5 hH.2.2.2.2.2.size (fun g hg => by have := (owns_lt oE g hg).1; omega)⟩ (fun hH => ?_)
              clear hK K gr5 at5 oE hCx
              simp only [Act.put, List.setIfInBounds_toArray, List.set_cons_zero, List.set_cons_succ]
              refine wpAnyH_ready (rs := [7]) (by kernel_rfl) (by simp) ?_
              refine AllReadyH.cons rfl (fun K hK => ?_) AllReadyH.nil
              · refine step_appX Try.underlying38 Try.underlying38 gi0 gz0 gz1 gz2 rfl (by omega) (by omega) (.tmp 59) (.tmp 61) rfl rfl (w.heap.size + 1) (.slice a5 k c5) k ((hcells es).take (k * 2)) _ 1 1 (hcells [⟨t, m⟩]) rfl rfl own5 hCN (hcells_one' _) (by omega) (by omega) ?_
                intro a7 c7 w7 own7 gr7 at7
                refine hK.out _ _ ⟨grown_cell gr7 hH.1 (fun e => by have := (owns_lt own5 _ e).1; omega), grown_cell gr7 hH.2.1 (fun e => by have := (owns_lt own5 _ e).1; omega), grown_cell gr7 hH.2.2.1 (fun e => by have := (owns_lt own5 _ e).1; omega), grown_cell gr7 hH.2.2.2.1 (fun e => by have := (owns_lt own5 _ e).1; omega), Nat.lt_of_lt_of_le hH.2.2.2.2.1 gr7.size, hH.2.2.2.2.2.grown gr7 hH.2.2.2.2.2.size (fun g hg => by have := (owns_lt own5 g hg).1; omega)⟩ (fun hH => ?_)
                clear hK K gr7 at7 own5 hCN
                simp only [Act.put, List.setIfInBounds_toArray, List.set_cons_zero, List.set_cons_succ]
                have hCd := hCb.below hH.2.2.2.2.2
                refine wpAnyH_ready (rs := [11]) (by kernel_rfl) (by simp) ?_
                refine AllReadyH.cons rfl (fun K hK => ?_) AllReadyH.nil
                refine step_appX Try.underlying38 Try.underlying38 gi0 gz0 gz1 gz2 rfl (by omega) (by omega) (.tmp 62) (.tmp 65) rfl rfl (w.heap.size + 1) (.slice a7 (k + 1) c7) (k + 1) _ (some ⟨g, k * 2, none⟩) (n - k) (c - k) ((hcells es).drop (k * 2)) rfl rfl own7 hCd H1b (by omega) (by omega) ?_
                intro a8 c8 w8 own8 gr8 at8
                refine hK.out _ _ ⟨grown_cell gr8 hH.1 (fun e => by have := (owns_lt own7 _ e).1; omega), grown_cell gr8 hH.2.1 (fun e => by have := (owns_lt own7 _ e).1; omega), grown_cell gr8 hH.2.2.1 (fun e => by have := (owns_lt own7 _ e).1; omega), grown_cell gr8 hH.2.2.2.1 (fun e => by have := (owns_lt own7 _ e).1; omega), Nat.lt_of_lt_of_le hH.2.2.2.2.1 gr8.size, hH.2.2.2.2.2.grown gr8 hH.2.2.2.2.2.size (fun g hg => by have := (owns_lt own7 g hg).1; omega)⟩ (fun hH => ?_)
                clear hK K gr8 at8 own7 hCd
                simp only [Act.put, List.setIfInBounds_toArray, List.set_cons_zero, List.set_cons_succ]
                refine hTake (i := 12) (v := ?_) rfl (by kernel_rfl) (by kernel_rfl) (by kernel_rfl) (by rfl) ?_ hH ?_
                rotate_left
                · intro W hW; (try dsimp only at hW); go_simp <;> with_reducible rfl
                simp only [Act.put, List.setIfInBounds_toArray, List.set_cons_zero, List.set_cons_succ]
                refine wpAnyH_done (by kernel_rfl) ?_ _
                refine NoPanic.normal ?_
                have en : k + 1 + (n - k) = n + 1 := by omega
                simp only [en] at own8 ⊢
                rw [← hcells_take, ← hcut_drop es k (by have := HL.out; omega), ← hcells_append, ← hcells_append] at own8
                rw [← HI.out] at own8
                obtain ⟨g8, rfl⟩ := own_at own8 (by omega)
                have O8 := hid (owns_base (base' := B) own8 (by omega))
                have k8 := hid hH.2.2.2.2.2
                clear own8 hH
                go_wp2
                exact bodyPost_ret (v := .slice (some ⟨g8, 0, none⟩) (n + 1) c8) (by simp [results, Try.results160, go_sem]) rfl ⟨g8, n + 1, c8, rfl, O8.out, by omega, k8.out⟩
    · obtain rfl : k = n := by omega
      have HI : Hid (Ch.insE es ⟨t, m⟩ = es.take k ++ [⟨t, m⟩] ++ es.drop k) := by
        have := Ch.insE_at (l := es) (e := ⟨t, m⟩) (k := k) (by have := HL.out; omega) HA.out (fun h => by have := HL.out; omega)
        rw [show decide (k < es.length) = false by have := HL.out; simp; omega, Bool.false_and] at this
        exact this
      by_cases hck : c = k
      · subst hck
        go_wp2_with fail
        refine wp_region_noPanic ?_
        refine wp_region_held_drew (S := fun W' => W'.cell? ⟨w.heap.size, 0, none⟩ = some (.int .i64 t) ∧ W'.cell? ⟨w.heap.size, 1, none⟩ = some (.int .i64 m) ∧ w.heap.size < W'.heap.size ∧ Below w.heap.size w W') (by kernel_rfl) (⟨z0, z1, ll, hW.drew⟩) (fun hH => ?_)
        refine hTake (i := 0) (v := ?_) rfl (by kernel_rfl) (by kernel_rfl) (by kernel_rfl) (by rfl) ?_ hH ?_
        rotate_left
        · intro W hW; (try dsimp only at hW); go_simp <;> with_reducible rfl
        simp only [Act.put, List.setIfInBounds_toArray, List.set_cons_zero, List.set_cons_succ]
        refine hTake (i := 1) (v := ?_) rfl (by kernel_rfl) (by kernel_rfl) (by kernel_rfl) (by rfl) ?_ hH ?_
        rotate_left
        · intro W hW; (try dsimp only at hW); go_simp <;> with_reducible rfl
        simp only [Act.put, List.setIfInBounds_toArray, List.set_cons_zero, List.set_cons_succ]
        refine hTake (i := 2) (v := ?_) rfl (by kernel_rfl) (by kernel_rfl) (by kernel_rfl) (by rfl) ?_ hH ?_
        rotate_left
        · intro W hW; (try dsimp only at hW); go_simp <;> with_reducible rfl
        simp only [Act.put, List.setIfInBounds_toArray, List.set_cons_zero, List.set_cons_succ]
        refine hTake (i := 3) (v := ?_) rfl (by kernel_rfl) (by kernel_rfl) (by kernel_rfl) (by rfl) ?_ hH ?_
        rotate_left
        · intro W hW; (try dsimp only at hW); go_simp <;> with_reducible rfl
        simp only [Act.put, List.setIfInBounds_toArray, List.set_cons_zero, List.set_cons_succ]
        refine hTake (i := 4) (v := ?_) rfl (by kernel_rfl) (by kernel_rfl) (by kernel_rfl) (by rfl) ?_ hH ?_
        rotate_left
        · intro W hW; (try dsimp only at hW); go_simp <;> with_reducible rfl
        simp only [Act.put, List.setIfInBounds_toArray, List.set_cons_zero, List.set_cons_succ]
        refine hSkip (i := 5) rfl (by kernel_rfl) (by kernel_rfl) (by kernel_rfl) (by rfl) hH ?_
        simp only [Act.put, List.setIfInBounds_toArray, List.set_cons_zero, List.set_cons_succ]
        refine hSkip (i := 6) rfl (by kernel_rfl) (by kernel_rfl) (by kernel_rfl) (by rfl) hH ?_
        simp only [Act.put, List.setIfInBounds_toArray, List.set_cons_zero, List.set_cons_succ]
        refine hSkip (i := 7) rfl (by kernel_rfl) (by kernel_rfl) (by kernel_rfl) (by rfl) hH ?_
        simp only [Act.put, List.setIfInBounds_toArray, List.set_cons_zero, List.set_cons_succ]
        refine hSkip (i := 8) rfl (by kernel_rfl) (by kernel_rfl) (by kernel_rfl) (by rfl) hH ?_
        simp only [Act.put, List.setIfInBounds_toArray, List.set_cons_zero, List.set_cons_succ]
        refine hSkip (i := 9) rfl (by kernel_rfl) (by kernel_rfl) (by kernel_rfl) (by rfl) hH ?_
        simp only [Act.put, List.setIfInBounds_toArray, List.set_cons_zero, List.set_cons_succ]
        refine hSkip (i := 10) rfl (by kernel_rfl) (by kernel_rfl) (by kernel_rfl) (by rfl) hH ?_
        simp only [Act.put, List.setIfInBounds_toArray, List.set_cons_zero, List.set_cons_succ]
        refine hSkip (i := 11) rfl (by kernel_rfl) (by kernel_rfl) (by kernel_rfl) (by rfl) hH ?_
        simp only [Act.put, List.setIfInBounds_toArray, List.set_cons_zero, List.set_cons_succ]
        refine hSkip (i := 12) rfl (by kernel_rfl) (by kernel_rfl) (by kernel_rfl) (by rfl) hH ?_
        simp only [Act.put, List.setIfInBounds_toArray, List.set_cons_zero, List.set_cons_succ]
        refine hSkip (i := 13) rfl (by kernel_rfl) (by kernel_rfl) (by kernel_rfl) (by rfl) hH ?_
        simp only [Act.put, List.setIfInBounds_toArray, List.set_cons_zero, List.set_cons_succ]
        refine hSkip (i := 14) rfl (by kernel_rfl) (by kernel_rfl) (by kernel_rfl) (by rfl) hH ?_
        simp only [Act.put, List.setIfInBounds_toArray, List.set_cons_zero, List.set_cons_succ]
        refine hSkip (i := 15) rfl (by kernel_rfl) (by kernel_rfl) (by kernel_rfl) (by rfl) hH ?_
        simp only [Act.put, List.setIfInBounds_toArray, List.set_cons_zero, List.set_cons_succ]
        refine hSkip (i := 16) rfl (by kernel_rfl) (by kernel_rfl) (by kernel_rfl) (by rfl) hH ?_
        simp only [Act.put, List.setIfInBounds_toArray, List.set_cons_zero, List.set_cons_succ]
        refine hSkip (i := 17) rfl (by kernel_rfl) (by kernel_rfl) (by kernel_rfl) (by rfl) hH ?_
        simp only [Act.put, List.setIfInBounds_toArray, List.set_cons_zero, List.set_cons_succ]
        refine hSkip (i := 18) rfl (by kernel_rfl) (by kernel_rfl) (by kernel_rfl) (by rfl) hH ?_
        simp only [Act.put, List.setIfInBounds_toArray, List.set_cons_zero, List.set_cons_succ]
        refine hSkip (i := 19) rfl (by kernel_rfl) (by kernel_rfl) (by kernel_rfl) (by rfl) hH ?_
        simp only [Act.put, List.setIfInBounds_toArray, List.set_cons_zero, List.set_cons_succ]
        refine hSkip (i := 20) rfl (by kernel_rfl) (by kernel_rfl) (by kernel_rfl) (by rfl) hH ?_
        simp only [Act.put, List.setIfInBounds_toArray, List.set_cons_zero, List.set_cons_succ]
        refine hSkip (i := 21) rfl (by kernel_rfl) (by kernel_rfl) (by kernel_rfl) (by rfl) hH ?_
        simp only [Act.put, List.setIfInBounds_toArray, List.set_cons_zero, List.set_cons_succ]
        refine hSkip (i := 22) rfl (by kernel_rfl) (by kernel_rfl) (by kernel_rfl) (by rfl) hH ?_
        simp only [Act.put, List.setIfInBounds_toArray, List.set_cons_zero, List.set_cons_succ]
        refine hSkip (i := 23) rfl (by kernel_rfl) (by kernel_rfl) (by kernel_rfl) (by rfl) hH ?_
        simp only [Act.put, List.setIfInBounds_toArray, List.set_cons_zero, List.set_cons_succ]
        refine hSkip (i := 24) rfl (by kernel_rfl) (by kernel_rfl) (by kernel_rfl) (by rfl) hH ?_
        simp only [Act.put, List.setIfInBounds_toArray, List.set_cons_zero, List.set_cons_succ]
        refine hSkip (i := 25) rfl (by kernel_rfl) (by kernel_rfl) (by kernel_rfl) (by rfl) hH ?_
        simp only [Act.put, List.setIfInBounds_toArray, List.set_cons_zero, List.set_cons_succ]
        refine hSkip (i := 26) rfl (by kernel_rfl) (by kernel_rfl) (by kernel_rfl) (by rfl) hH ?_
        simp only [Act.put, List.setIfInBounds_toArray, List.set_cons_zero, List.set_cons_succ]
        refine hSkip (i := 27) rfl (by kernel_rfl) (by kernel_rfl) (by kernel_rfl) (by rfl) hH ?_
        simp only [Act.put, List.setIfInBounds_toArray, List.set_cons_zero, List.set_cons_succ]
        refine hSkip (i := 28) rfl (by kernel_rfl) (by kernel_rfl) (by kernel_rfl) (by rfl) hH ?_
        simp only [Act.put, List.setIfInBounds_toArray, List.set_cons_zero, List.set_cons_succ]
        refine hSkip (i := 29) rfl (by kernel_rfl) (by kernel_rfl) (by kernel_rfl) (by rfl) hH ?_
        simp only [Act.put, List.setIfInBounds_toArray, List.set_cons_zero, List.set_cons_succ]
        refine hSkip (i := 30) rfl (by kernel_rfl) (by kernel_rfl) (by kernel_rfl) (by rfl) hH ?_
        simp only [Act.put, List.setIfInBounds_toArray, List.set_cons_zero, List.set_cons_succ]
        refine hSkip (i := 31) rfl (by kernel_rfl) (by kernel_rfl) (by kernel_rfl) (by rfl) hH ?_
        simp only [Act.put, List.setIfInBounds_toArray, List.set_cons_zero, List.set_cons_succ]
        refine hSkip (i := 32) rfl (by kernel_rfl) (by kernel_rfl) (by kernel_rfl) (by rfl) hH ?_
        simp only [Act.put, List.setIfInBounds_toArray, List.set_cons_zero, List.set_cons_succ]
        refine hTake (i := 33) (v := ?_) rfl (by kernel_rfl) (by kernel_rfl) (by kernel_rfl) (by rfl) ?_ hH ?_
        rotate_left
        · intro W hW; (try dsimp only at hW); go_simp <;> with_reducible rfl
        simp only [Act.put, List.setIfInBounds_toArray, List.set_cons_zero, List.set_cons_succ]
        refine wpAnyH_done (by kernel_rfl) ?_ _
        refine NoPanic.normal ?_
        clear z0 z1 hW ll
        go_wp2_with fail
        refine wp_region_noPanic ?_
        refine wp_region_held_drew (S := fun W' => W'.cell? ⟨w.heap.size, 0, none⟩ = some (.int .i64 t) ∧ W'.cell? ⟨w.heap.size, 1, none⟩ = some (.int .i64 m) ∧ w.heap.size < W'.heap.size ∧ Below w.heap.size w W') (by kernel_rfl) (⟨hH.1, hH.2.1, hH.2.2.1, hH.2.2.2.drew⟩) (fun hH => ?_)
        refine hTake (i := 0) (v := ?_) rfl (by kernel_rfl) (by kernel_rfl) (by kernel_rfl) (by rfl) ?_ hH ?_
        rotate_left
        · intro W hW; (try dsimp only at hW); go_simp <;> with_reducible rfl
        simp only [Act.put, List.setIfInBounds_toArray, List.set_cons_zero, List.set_cons_succ]
        refine hTake (i := 1) (v := ?_) rfl (by kernel_rfl) (by kernel_rfl) (by kernel_rfl) (by rfl) ?_ hH ?_
        rotate_left
        · intro W hW; (try dsimp only at hW); go_simp <;> with_reducible rfl
        simp only [Act.put, List.setIfInBounds_toArray, List.set_cons_zero, List.set_cons_succ]
        refine hTake (i := 2) (v := ?_) rfl (by kernel_rfl) (by kernel_rfl) (by kernel_rfl) (by rfl) ?_ hH ?_
        rotate_left
        · intro W hW; (try dsimp only at hW); go_simp <;> with_reducible rfl
        simp only [Act.put, List.setIfInBounds_toArray, List.set_cons_zero, List.set_cons_succ]
        refine hTake (i := 3) (v := ?_) rfl (by kernel_rfl) (by kernel_rfl) (by kernel_rfl) (by rfl) ?_ hH ?_
        rotate_left
        · intro W hW; (try dsimp only at hW); go_simp <;> with_reducible rfl
        simp only [Act.put, List.setIfInBounds_toArray, List.set_cons_zero, List.set_cons_succ]
        refine hTake (i := 4) (v := ?_) rfl (by kernel_rfl) (by kernel_rfl) (by kernel_rfl) (by rfl) ?_ hH ?_
        rotate_left
        · intro W hW; (try dsimp only at hW); go_simp <;> with_reducible rfl
        simp only [Act.put, List.setIfInBounds_toArray, List.set_cons_zero, List.set_cons_succ]
        refine hSkip (i := 5) rfl (by kernel_rfl) (by kernel_rfl) (by kernel_rfl) (by rfl) hH ?_
        simp only [Act.put, List.setIfInBounds_toArray, List.set_cons_zero, List.set_cons_succ]
        refine hSkip (i := 6) rfl (by kernel_rfl) (by kernel_rfl) (by kernel_rfl) (by rfl) hH ?_
        simp only [Act.put, List.setIfInBounds_toArray, List.set_cons_zero, List.set_cons_succ]
        refine hSkip (i := 7) rfl (by kernel_rfl) (by kernel_rfl) (by kernel_rfl) (by rfl) hH ?_
        simp only [Act.put, List.setIfInBounds_toArray, List.set_cons_zero, List.set_cons_succ]
        refine hSkip (i := 8) rfl (by kernel_rfl) (by kernel_rfl) (by kernel_rfl) (by rfl) hH ?_
        simp only [Act.put, List.setIfInBounds_toArray, List.set_cons_zero, List.set_cons_succ]
        refine hSkip (i := 9) rfl (by kernel_rfl) (by kernel_rfl) (by kernel_rfl) (by rfl) hH ?_
        simp only [Act.put, List.setIfInBounds_toArray, List.set_cons_zero, List.set_cons_succ]
        refine hSkip (i := 10) rfl (by kernel_rfl) (by kernel_rfl) (by kernel_rfl) (by rfl) hH ?_
        simp only [Act.put, List.setIfInBounds_toArray, List.set_cons_zero, List.set_cons_succ]
        refine hTake (i := 11) (v := ?_) rfl (by kernel_rfl) (by kernel_rfl) (by kernel_rfl) (by rfl) ?_ hH ?_
        rotate_left
        · intro W hW; (try dsimp only at hW); go_simp <;> with_reducible rfl
        simp only [Act.put, List.setIfInBounds_toArray, List.set_cons_zero, List.set_cons_succ]
        refine wpAnyH_done (by kernel_rfl) ?_ _
        refine NoPanic.normal ?_
        go_wp2_with fail
        generalize wr.drew.drew = wp at *
        have hkc : c ≤ c := by omega

        have H1a : ∀ u ∈ (hcells es).take (c * 2), u.oneCell' = true := fun u hu => hcells_one' es u (List.mem_of_mem_take hu)
        have H1b : ∀ u ∈ (hcells es).drop (c * 2), u.oneCell' = true := fun u hu => hcells_one' es u (List.mem_of_mem_drop hu)
        have hCa := cut_take h4 (k := c * 2) (by omega)
        have hCb : CellsAt w (some ⟨g, 0, none⟩) (0 * 2) ((hcells es).drop (c * 2)) := ⟨by rw [List.length_drop, h4.1]; omega, fun h => by omega⟩
        refine wp_region_noPanic ?_
        refine wp_region_held_drew (S := fun W' => W'.cell? ⟨w.heap.size, 0, none⟩ = some (.int .i64 t) ∧ W'.cell? ⟨w.heap.size, 1, none⟩ = some (.int .i64 m) ∧ w.heap.size < W'.heap.size ∧ Below w.heap.size w W') (by kernel_rfl) (⟨hH.1, hH.2.1, hH.2.2.1, hH.2.2.2.drew⟩) (fun hH => ?_)
        generalize wp.drew = wq at *
        refine hTake (i := 1) (v := ?_) rfl (by kernel_rfl) (by kernel_rfl) (by kernel_rfl) (by rfl) ?_ hH ?_
        rotate_left
        · intro W hW; (try dsimp only at hW); go_simp <;> with_reducible rfl
        simp only [Act.put, List.setIfInBounds_toArray, List.set_cons_zero, List.set_cons_succ]
        refine hTake (i := 2) (v := ?_) rfl (by kernel_rfl) (by kernel_rfl) (by kernel_rfl) (by rfl) ?_ hH ?_
        rotate_left
        · intro W hW; (try dsimp only at hW); go_simp <;> with_reducible rfl
        simp only [Act.put, List.setIfInBounds_toArray, List.set_cons_zero, List.set_cons_succ]
        refine hTake (i := 3) (v := ?_) rfl (by kernel_rfl) (by kernel_rfl) (by kernel_rfl) (by rfl) ?_ hH ?_
        rotate_left
        · intro W hW; (try dsimp only at hW); go_simp <;> with_reducible rfl
        simp only [Act.put, List.setIfInBounds_toArray, List.set_cons_zero, List.set_cons_succ]
        refine hTake (i := 5) (v := ?_) rfl (by kernel_rfl) (by kernel_rfl) (by kernel_rfl) (by rfl) ?_ hH ?_
        rotate_left
        · intro W hW; (try dsimp only at hW); go_simp <;> with_reducible rfl
        simp only [Act.put, List.setIfInBounds_toArray, List.set_cons_zero, List.set_cons_succ]
        refine hTake (i := 8) (v := ?_) rfl (by kernel_rfl) (by kernel_rfl) (by kernel_rfl) (by rfl) ?_ hH ?_
        rotate_left
        · intro W hW; (try dsimp only at hW); go_simp <;> with_reducible rfl
        simp only [Act.put, List.setIfInBounds_toArray, List.set_cons_zero, List.set_cons_succ]
        refine hTake (i := 9) (v := ?_) rfl (by kernel_rfl) (by kernel_rfl) (by kernel_rfl) (by rfl) ?_ hH ?_
        rotate_left
        · intro W hW; (try dsimp only at hW); go_simp <;> with_reducible rfl
        simp only [Act.put, List.setIfInBounds_toArray, List.set_cons_zero, List.set_cons_succ]
        refine hTake (i := 10) (v := ?_) rfl (by kernel_rfl) (by kernel_rfl) (by kernel_rfl) (by rfl) ?_ hH ?_
        rotate_left
        · intro W hW; (try dsimp only at hW); go_simp <;> with_reducible rfl
        simp only [Act.put, List.setIfInBounds_toArray, List.set_cons_zero, List.set_cons_succ]
        refine wpAnyH_ready (rs := [0, 6]) (by kernel_rfl) (by simp) ?_
        refine AllReadyH.cons rfl (fun K hK => ?_) (AllReadyH.cons rfl (fun K hK => ?_) AllReadyH.nil)
        · have oE := owns_base (base' := w.heap.size + 1) (new_empty wq 46 2) (by have := hH.2.2.1; omega)
          have kE : Below wq.heap.size wq (wq.alloc (.cells #[] 46)) := (Below.refl _ _).alloc (Nat.le_refl _) _
          go_simp
          refine hK.out _ _ ⟨keep_cell kE hH.1, keep_cell kE hH.2.1, Nat.lt_of_lt_of_le hH.2.2.1 kE.size, hH.2.2.2.trans (kE.mono hH.2.2.2.size)⟩ (fun hH => ?_)
          clear hK K
          clear kE
          refine wpAnyH_ready (rs := [4, 6]) (by kernel_rfl) (by simp) ?_
          refine AllReadyH.cons rfl (fun K hK => ?_) (AllReadyH.cons rfl (fun K hK => ?_) AllReadyH.nil)
          · have hCx := hCa.below hH.2.2.2
            refine step_appX Try.underlying38 Try.underlying38 gi0 gz0 gz1 gz2 rfl (by omega) (by omega) (.tmp 55) (.tmp 58) rfl rfl (w.heap.size + 1) (.slice (some ⟨wq.heap.size, 0, none⟩) 0 0) 0 [] (some ⟨g, 0, none⟩) c c ((hcells es).take (c * 2)) rfl rfl oE hCx H1a (by omega) (by omega) ?_
            intro a5 c5 w5 own5 gr5 at5
            simp only [Nat.zero_add, List.nil_append] at own5 at5 ⊢
            refine hK.out _ _ ⟨grown_cell gr5 hH.1 (fun e => by have := (owns_lt oE _ e).1; omega), grown_cell gr5 hH.2.1 (fun e => by have := (owns_lt oE _ e).1; omega), Nat.lt_of_lt_of_le hH.2.2.1 gr5.size, hH.2.2.2.grown gr5 hH.2.2.2.size (fun g hg => by have := (owns_lt oE g hg).1; omega)⟩ (fun hH => ?_)
            clear hK K gr5 at5 oE hCx
            simp only [Act.put, List.setIfInBounds_toArray, List.set_cons_zero, List.set_cons_succ]
            refine wpAnyH_ready (rs := [6]) (by kernel_rfl) (by simp) ?_
            refine AllReadyH.cons rfl (fun K hK => ?_) AllReadyH.nil
            · have kN : Below w5.heap.size w5 (w5.alloc (.cells #[.int .i64 t, .int .i64 m] 46)) := (Below.refl _ _).alloc (Nat.le_refl _) _
              have hCN := new_hold w5 t m 46
              go_simp
              refine hK.out _ _ ⟨keep_cell kN hH.1, keep_cell kN hH.2.1, Nat.lt_of_lt_of_le hH.2.2.1 kN.size, hH.2.2.2.trans (kN.mono hH.2.2.2.size)⟩ (fun hH => ?_)
              clear hK K
              replace own5 := owns_below own5 kN
              clear kN
              refine wpAnyH_ready (rs := [7]) (by kernel_rfl) (by simp) ?_
              refine AllReadyH.cons rfl (fun K hK => ?_) AllReadyH.nil
              · refine step_appX Try.underlying38 Try.underlying38 gi0 gz0 gz1 gz2 rfl (by omega) (by omega) (.tmp 59) (.tmp 61) rfl rfl (w.heap.size + 1) (.slice a5 c c5) c ((hcells es).take (c * 2)) _ 1 1 (hcells [⟨t, m⟩]) rfl rfl own5 hCN (hcells_one' _) (by omega) (by omega) ?_
                intro a7 c7 w7 own7 gr7 at7
                refine hK.out _ _ ⟨grown_cell gr7 hH.1 (fun e => by have := (owns_lt own5 _ e).1; omega), grown_cell gr7 hH.2.1 (fun e => by have := (owns_lt own5 _ e).1; omega), Nat.lt_of_lt_of_le hH.2.2.1 gr7.size, hH.2.2.2.grown gr7 hH.2.2.2.size (fun g hg => by have := (owns_lt own5 g hg).1; omega)⟩ (fun hH => ?_)
                clear hK K gr7 at7 own5 hCN
                simp only [Act.put, List.setIfInBounds_toArray, List.set_cons_zero, List.set_cons_succ]
                have hCd := hCb.below hH.2.2.2
                refine wpAnyH_ready (rs := [11]) (by kernel_rfl) (by simp) ?_
                refine AllReadyH.cons rfl (fun K hK => ?_) AllReadyH.nil
                refine step_appX Try.underlying38 Try.underlying38 gi0 gz0 gz1 gz2 rfl (by omega) (by omega) (.tmp 62) (.tmp 65) rfl rfl (w.heap.size + 1) (.slice a7 (c + 1) c7) (c + 1) _ (some ⟨g, 0, none⟩) 0 0 ((hcells es).drop (c * 2)) rfl rfl own7 hCd H1b (by omega) (by omega) ?_
                intro a8 c8 w8 own8 gr8 at8
                refine hK.out _ _ ⟨grown_cell gr8 hH.1 (fun e => by have := (owns_lt own7 _ e).1; omega), grown_cell gr8 hH.2.1 (fun e => by have := (owns_lt own7 _ e).1; omega), Nat.lt_of_lt_of_le hH.2.2.1 gr8.size, hH.2.2.2.grown gr8 hH.2.2.2.size (fun g hg => by have := (owns_lt own7 g hg).1; omega)⟩ (fun hH => ?_)
                clear hK K gr8 at8 own7 hCd
                simp only [Act.put, List.setIfInBounds_toArray, List.set_cons_zero, List.set_cons_succ]
                refine hTake (i := 12) (v := ?_) rfl (by kernel_rfl) (by kernel_rfl) (by kernel_rfl) (by rfl) ?_ hH ?_
                rotate_left
                · intro W hW; (try dsimp only at hW); go_simp <;> with_reducible rfl
                simp only [Act.put, List.setIfInBounds_toArray, List.set_cons_zero, List.set_cons_succ]
                refine wpAnyH_done (by kernel_rfl) ?_ _
                refine NoPanic.normal ?_
                have en : c + 1 + 0 = c + 1 := by omega
                simp only [en] at own8 ⊢
                rw [← hcells_take, ← hcut_drop es c (by have := HL.out; omega), ← hcells_append, ← hcells_append] at own8
                rw [← HI.out] at own8
                obtain ⟨g8, rfl⟩ := own_at own8 (by omega)
                have O8 := hid (owns_base (base' := B) own8 (by omega))
                have k8 := hid hH.2.2.2
                clear own8 hH
                go_wp2
                exact bodyPost_ret (v := .slice (some ⟨g8, 0, none⟩) (c + 1) c8) (by simp [results, Try.results160, go_sem]) rfl ⟨g8, c + 1, c8, rfl, O8.out, by omega, k8.out⟩
          · have kN : Below (wq.alloc (.cells #[] 46)).heap.size (wq.alloc (.cells #[] 46)) ((wq.alloc (.cells #[] 46)).alloc (.cells #[.int .i64 t, .int .i64 m] 46)) := (Below.refl _ _).alloc (Nat.le_refl _) _
            have hCN := new_hold (wq.alloc (.cells #[] 46)) t m 46
            rw [show (wq.alloc (.cells #[] 46)).heap.size = wq.heap.size + 1 by simp] at hCN
            go_simp
            refine hK.out _ _ ⟨keep_cell kN hH.1, keep_cell kN hH.2.1, Nat.lt_of_lt_of_le hH.2.2.1 kN.size, hH.2.2.2.trans (kN.mono hH.2.2.2.size)⟩ (fun hH => ?_)
            clear hK K
            replace oE := owns_below oE kN
            clear kN
            refine wpAnyH_ready (rs := [4]) (by kernel_rfl) (by simp) ?_
            refine AllReadyH.cons rfl (fun K hK => ?_) AllReadyH.nil
            · have hCx := hCa.below hH.2.2.2
              refine step_appX Try.underlying38 Try.underlying38 gi0 gz0 gz1 gz2 rfl (by omega) (by omega) (.tmp 55) (.tmp 58) rfl rfl (w.heap.size + 1) (.slice (some ⟨wq.heap.size, 0, none⟩) 0 0) 0 [] (some ⟨g, 0, none⟩) c c ((hcells es).take (c * 2)) rfl rfl oE hCx H1a (by omega) (by omega) ?_
              intro a5 c5 w5 own5 gr5 at5
              simp only [Nat.zero_add, List.nil_append] at own5 at5 ⊢
              replace hCN := cells_grown hCN gr5 (fun b off ha e => by cases ha; simp [Value.ownBlock] at e)
              refine hK.out _ _ ⟨grown_cell gr5 hH.1 (fun e => by have := (owns_lt oE _ e).1; omega), grown_cell gr5 hH.2.1 (fun e => by have := (owns_lt oE _ e).1; omega), Nat.lt_of_lt_of_le hH.2.2.1 gr5.size, hH.2.2.2.grown gr5 hH.2.2.2.size (fun g hg => by have := (owns_lt oE g hg).1; omega)⟩ (fun hH => ?_)
              clear hK K gr5 at5 oE hCx
              simp only [Act.put, List.setIfInBounds_toArray, List.set_cons_zero, List.set_cons_succ]
              refine wpAnyH_ready (rs := [7]) (by kernel_rfl) (by simp) ?_
              refine AllReadyH.cons rfl (fun K hK => ?_) AllReadyH.nil
              · refine step_appX Try.underlying38 Try.underlying38 gi0 gz0 gz1 gz2 rfl (by omega) (by omega) (.tmp 59) (.tmp 61) rfl rfl (w.heap.size + 1) (.slice a5 c c5) c ((hcells es).take (c * 2)) _ 1 1 (hcells [⟨t, m⟩]) rfl rfl own5 hCN (hcells_one' _) (by omega) (by omega) ?_
                intro a7 c7 w7 own7 gr7 at7
                refine hK.out _ _ ⟨grown_cell gr7 hH.1 (fun e => by have := (owns_lt own5 _ e).1; omega), grown_cell gr7 hH.2.1 (fun e => by have := (owns_lt own5 _ e).1; omega), Nat.lt_of_lt_of_le hH.2.2.1 gr7.size, hH.2.2.2.grown gr7 hH.2.2.2.size (fun g hg => by have := (owns_lt own5 g hg).1; omega)⟩ (fun hH => ?_)
                clear hK K gr7 at7 own5 hCN
                simp only [Act.put, List.setIfInBounds_toArray, List.set_cons_zero, List.set_cons_succ]
                have hCd := hCb.below hH.2.2.2
                refine wpAnyH_ready (rs := [11]) (by kernel_rfl) (by simp) ?_
                refine AllReadyH.cons rfl (fun K hK => ?_) AllReadyH.nil
                refine step_appX Try.underlying38 Try.underlying38 gi0 gz0 gz1 gz2 rfl (by omega) (by omega) (.tmp 62) (.tmp 65) rfl rfl (w.heap.size + 1) (.slice a7 (c + 1) c7) (c + 1) _ (some ⟨g, 0, none⟩) 0 0 ((hcells es).drop (c * 2)) rfl rfl own7 hCd H1b (by omega) (by omega) ?_
                intro a8 c8 w8 own8 gr8 at8
                refine hK.out _ _ ⟨grown_cell gr8 hH.1 (fun e => by have := (owns_lt own7 _ e).1; omega), grown_cell gr8 hH.2.1 (fun e => by have := (owns_lt own7 _ e).1; omega), Nat.lt_of_lt_of_le hH.2.2.1 gr8.size, hH.2.2.2.grown gr8 hH.2.2.2.size (fun g hg => by have := (owns_lt own7 g hg).1; omega)⟩ (fun hH => ?_)
                clear hK K gr8 at8 own7 hCd
                simp only [Act.put, List.setIfInBounds_toArray, List.set_cons_zero, List.set_cons_succ]
                refine hTake (i := 12) (v := ?_) rfl (by kernel_rfl) (by kernel_rfl) (by kernel_rfl) (by rfl) ?_ hH ?_
                rotate_left
                · intro W hW; (try dsimp only at hW); go_simp <;> with_reducible rfl
                simp only [Act.put, List.setIfInBounds_toArray, List.set_cons_zero, List.set_cons_succ]
                refine wpAnyH_done (by kernel_rfl) ?_ _
                refine NoPanic.normal ?_
                have en : c + 1 + 0 = c + 1 := by omega
                simp only [en] at own8 ⊢
                rw [← hcells_take, ← hcut_drop es c (by have := HL.out; omega), ← hcells_append, ← hcells_append] at own8
                rw [← HI.out] at own8
                obtain ⟨g8, rfl⟩ := own_at own8 (by omega)
                have O8 := hid (owns_base (base' := B) own8 (by omega))
                have k8 := hid hH.2.2.2
                clear own8 hH
                go_wp2
                exact bodyPost_ret (v := .slice (some ⟨g8, 0, none⟩) (c + 1) c8) (by simp [results, Try.results160, go_sem]) rfl ⟨g8, c + 1, c8, rfl, O8.out, by omega, k8.out⟩
        · have kN : Below wq.heap.size wq (wq.alloc (.cells #[.int .i64 t, .int .i64 m] 46)) := (Below.refl _ _).alloc (Nat.le_refl _) _
          have hCN := new_hold wq t m 46
          go_simp
          refine hK.out _ _ ⟨keep_cell kN hH.1, keep_cell kN hH.2.1, Nat.lt_of_lt_of_le hH.2.2.1 kN.size, hH.2.2.2.trans (kN.mono hH.2.2.2.size)⟩ (fun hH => ?_)
          clear hK K
          clear kN
          refine wpAnyH_ready (rs := [0]) (by kernel_rfl) (by simp) ?_
          refine AllReadyH.cons rfl (fun K hK => ?_) AllReadyH.nil
          · have oE := owns_base (base' := w.heap.size + 1) (new_empty (wq.alloc (.cells #[.int .i64 t, .int .i64 m] 46)) 46 2) (by have := hH.2.2.1; omega)
            have kE : Below (wq.alloc (.cells #[.int .i64 t, .int .i64 m] 46)).heap.size (wq.alloc (.cells #[.int .i64 t, .int .i64 m] 46)) ((wq.alloc (.cells #[.int .i64 t, .int .i64 m] 46)).alloc (.cells #[] 46)) := (Below.refl _ _).alloc (Nat.le_refl _) _
            rw [show (wq.alloc (.cells #[.int .i64 t, .int .i64 m] 46)).heap.size = wq.heap.size + 1 by simp] at oE
            go_simp
            refine hK.out _ _ ⟨keep_cell kE hH.1, keep_cell kE hH.2.1, Nat.lt_of_lt_of_le hH.2.2.1 kE.size, hH.2.2.2.trans (kE.mono hH.2.2.2.size)⟩ (fun hH => ?_)
            clear hK K
            replace hCN := hCN.below kE
            clear kE
            refine wpAnyH_ready (rs := [4]) (by kernel_rfl) (by simp) ?_
            refine AllReadyH.cons rfl (fun K hK => ?_) AllReadyH.nil
            · have hCx := hCa.below hH.2.2.2
              refine step_appX Try.underlying38 Try.underlying38 gi0 gz0 gz1 gz2 rfl (by omega) (by omega) (.tmp 55) (.tmp 58) rfl rfl (w.heap.size + 1) (.slice (some ⟨wq.heap.size + 1, 0, none⟩) 0 0) 0 [] (some ⟨g, 0, none⟩) c c ((hcells es).take (c * 2)) rfl rfl oE hCx H1a (by omega) (by omega) ?_
              intro a5 c5 w5 own5 gr5 at5
              simp only [Nat.zero_add, List.nil_append] at own5 at5 ⊢
              replace hCN := cells_grown hCN gr5 (fun b off ha e => by cases ha; simp [Value.ownBlock] at e)
              refine hK.out _ _ ⟨grown_cell gr5 hH.1 (fun e => by have := (owns_lt oE _ e).1; omega), grown_cell gr5 hH.2.1 (fun e => by have := (owns_lt oE _ e).1; omega), Nat.lt_of_lt_of_le hH.2.2.1 gr5.size, hH.2.2.2.grown gr5 hH.2.2.2.size (fun g hg => by have := (owns_lt oE g hg).1; omega)⟩ (fun hH => ?_)
              clear hK K gr5 at5 oE hCx
              simp only [Act.put, List.setIfInBounds_toArray, List.set_cons_zero, List.set_cons_succ]
              refine wpAnyH_ready (rs := [7]) (by kernel_rfl) (by simp) ?_
              refine AllReadyH.cons rfl (fun K hK => ?_) AllReadyH.nil
              · refine step_appX Try.underlying38 Try.underlying38 gi0 gz0 gz1 gz2 rfl (by omega) (by omega) (.tmp 59) (.tmp 61) rfl rfl (w.heap.size + 1) (.slice a5 c c5) c ((hcells es).take (c * 2)) _ 1 1 (hcells [⟨t, m⟩]) rfl rfl own5 hCN (hcells_one' _) (by omega) (by omega) ?_
                intro a7 c7 w7 own7 gr7 at7
                refine hK.out _ _ ⟨grown_cell gr7 hH.1 (fun e => by have := (owns_lt own5 _ e).1; omega), grown_cell gr7 hH.2.1 (fun e => by have := (owns_lt own5 _ e).1; omega), Nat.lt_of_lt_of_le hH.2.2.1 gr7.size, hH.2.2.2.grown gr7 hH.2.2.2.size (fun g hg => by have := (owns_lt own5 g hg).1; omega)⟩ (fun hH => ?_)
                clear hK K gr7 at7 own5 hCN
                simp only [Act.put, List.setIfInBounds_toArray, List.set_cons_zero, List.set_cons_succ]
                have hCd := hCb.below hH.2.2.2
                refine wpAnyH_ready (rs := [11]) (by kernel_rfl) (by simp) ?_
                refine AllReadyH.cons rfl (fun K hK => ?_) AllReadyH.nil
                refine step_appX Try.underlying38 Try.underlying38 gi0 gz0 gz1 gz2 rfl (by omega) (by omega) (.tmp 62) (.tmp 65) rfl rfl (w.heap.size + 1) (.slice a7 (c + 1) c7) (c + 1) _ (some ⟨g, 0, none⟩) 0 0 ((hcells es).drop (c * 2)) rfl rfl own7 hCd H1b (by omega) (by omega) ?_
                intro a8 c8 w8 own8 gr8 at8
                refine hK.out _ _ ⟨grown_cell gr8 hH.1 (fun e => by have := (owns_lt own7 _ e).1; omega), grown_cell gr8 hH.2.1 (fun e => by have := (owns_lt own7 _ e).1; omega), Nat.lt_of_lt_of_le hH.2.2.1 gr8.size, hH.2.2.2.grown gr8 hH.2.2.2.size (fun g hg => by have := (owns_lt own7 g hg).1; omega)⟩ (fun hH => ?_)
                clear hK K gr8 at8 own7 hCd
                simp only [Act.put, List.setIfInBounds_toArray, List.set_cons_zero, List.set_cons_succ]
                refine hTake (i := 12) (v := ?_) rfl (by kernel_rfl) (by kernel_rfl) (by kernel_rfl) (by rfl) ?_ hH ?_
                rotate_left
                · intro W hW; (try dsimp only at hW); go_simp <;> with_reducible rfl
                simp only [Act.put, List.setIfInBounds_toArray, List.set_cons_zero, List.set_cons_succ]
                refine wpAnyH_done (by kernel_rfl) ?_ _
                refine NoPanic.normal ?_
                have en : c + 1 + 0 = c + 1 := by omega
                simp only [en] at own8 ⊢
                rw [← hcells_take, ← hcut_drop es c (by have := HL.out; omega), ← hcells_append, ← hcells_append] at own8
                rw [← HI.out] at own8
                obtain ⟨g8, rfl⟩ := own_at own8 (by omega)
                have O8 := hid (owns_base (base' := B) own8 (by omega))
                have k8 := hid hH.2.2.2
                clear own8 hH
                go_wp2
                exact bodyPost_ret (v := .slice (some ⟨g8, 0, none⟩) (c + 1) c8) (by simp [results, Try.results160, go_sem]) rfl ⟨g8, c + 1, c8, rfl, O8.out, by omega, k8.out⟩
      · go_wp2_with fail
        refine wp_region_noPanic ?_
        refine wp_region_held_drew (S := fun W' => W'.cell? ⟨w.heap.size, 0, none⟩ = some (.int .i64 t) ∧ W'.cell? ⟨w.heap.size, 1, none⟩ = some (.int .i64 m) ∧ w.heap.size < W'.heap.size ∧ Below w.heap.size w W') (by kernel_rfl) (⟨z0, z1, ll, hW.drew⟩) (fun hH => ?_)
        refine hTake (i := 0) (v := ?_) rfl (by kernel_rfl) (by kernel_rfl) (by kernel_rfl) (by rfl) ?_ hH ?_
        rotate_left
        · intro W hW; (try dsimp only at hW); go_simp <;> with_reducible rfl
        simp only [Act.put, List.setIfInBounds_toArray, List.set_cons_zero, List.set_cons_succ]
        refine hTake (i := 1) (v := ?_) rfl (by kernel_rfl) (by kernel_rfl) (by kernel_rfl) (by rfl) ?_ hH ?_
        rotate_left
        · intro W hW; (try dsimp only at hW); go_simp <;> with_reducible rfl
        simp only [Act.put, List.setIfInBounds_toArray, List.set_cons_zero, List.set_cons_succ]
        refine hTake (i := 2) (v := ?_) rfl (by kernel_rfl) (by kernel_rfl) (by kernel_rfl) (by rfl) ?_ hH ?_
        rotate_left
        · intro W hW; (try dsimp only at hW); go_simp <;> with_reducible rfl
        simp only [Act.put, List.setIfInBounds_toArray, List.set_cons_zero, List.set_cons_succ]
        refine hTake (i := 3) (v := ?_) rfl (by kernel_rfl) (by kernel_rfl) (by kernel_rfl) (by rfl) ?_ hH ?_
        rotate_left
        · intro W hW; (try dsimp only at hW); go_simp <;> with_reducible rfl
        simp only [Act.put, List.setIfInBounds_toArray, List.set_cons_zero, List.set_cons_succ]
        refine hTake (i := 4) (v := ?_) rfl (by kernel_rfl) (by kernel_rfl) (by kernel_rfl) (by rfl) ?_ hH ?_
        rotate_left
        · intro W hW; (try dsimp only at hW); go_simp <;> with_reducible rfl
        simp only [Act.put, List.setIfInBounds_toArray, List.set_cons_zero, List.set_cons_succ]
        refine hSkip (i := 5) rfl (by kernel_rfl) (by kernel_rfl) (by kernel_rfl) (by rfl) hH ?_
        simp only [Act.put, List.setIfInBounds_toArray, List.set_cons_zero, List.set_cons_succ]
        refine hSkip (i := 6) rfl (by kernel_rfl) (by kernel_rfl) (by kernel_rfl) (by rfl) hH ?_
        simp only [Act.put, List.setIfInBounds_toArray, List.set_cons_zero, List.set_cons_succ]
        refine hSkip (i := 7) rfl (by kernel_rfl) (by kernel_rfl) (by kernel_rfl) (by rfl) hH ?_
        simp only [Act.put, List.setIfInBounds_toArray, List.set_cons_zero, List.set_cons_succ]
        refine hSkip (i := 8) rfl (by kernel_rfl) (by kernel_rfl) (by kernel_rfl) (by rfl) hH ?_
        simp only [Act.put, List.setIfInBounds_toArray, List.set_cons_zero, List.set_cons_succ]
        refine hSkip (i := 9) rfl (by kernel_rfl) (by kernel_rfl) (by kernel_rfl) (by rfl) hH ?_
        simp only [Act.put, List.setIfInBounds_toArray, List.set_cons_zero, List.set_cons_succ]
        refine hSkip (i := 10) rfl (by kernel_rfl) (by kernel_rfl) (by kernel_rfl) (by rfl) hH ?_
        simp only [Act.put, List.setIfInBounds_toArray, List.set_cons_zero, List.set_cons_succ]
        refine hSkip (i := 11) rfl (by kernel_rfl) (by kernel_rfl) (by kernel_rfl) (by rfl) hH ?_
        simp only [Act.put, List.setIfInBounds_toArray, List.set_cons_zero, List.set_cons_succ]
        refine hSkip (i := 12) rfl (by kernel_rfl) (by kernel_rfl) (by kernel_rfl) (by rfl) hH ?_
        simp only [Act.put, List.setIfInBounds_toArray, List.set_cons_zero, List.set_cons_succ]
        refine hSkip (i := 13) rfl (by kernel_rfl) (by kernel_rfl) (by kernel_rfl) (by rfl) hH ?_
        simp only [Act.put, List.setIfInBounds_toArray, List.set_cons_zero, List.set_cons_succ]
        refine hSkip (i := 14) rfl (by kernel_rfl) (by kernel_rfl) (by kernel_rfl) (by rfl) hH ?_
        simp only [Act.put, List.setIfInBounds_toArray, List.set_cons_zero, List.set_cons_succ]
        refine hSkip (i := 15) rfl (by kernel_rfl) (by kernel_rfl) (by kernel_rfl) (by rfl) hH ?_
        simp only [Act.put, List.setIfInBounds_toArray, List.set_cons_zero, List.set_cons_succ]
        refine hSkip (i := 16) rfl (by kernel_rfl) (by kernel_rfl) (by kernel_rfl) (by rfl) hH ?_
        simp only [Act.put, List.setIfInBounds_toArray, List.set_cons_zero, List.set_cons_succ]
        refine hSkip (i := 17) rfl (by kernel_rfl) (by kernel_rfl) (by kernel_rfl) (by rfl) hH ?_
        simp only [Act.put, List.setIfInBounds_toArray, List.set_cons_zero, List.set_cons_succ]
        refine hSkip (i := 18) rfl (by kernel_rfl) (by kernel_rfl) (by kernel_rfl) (by rfl) hH ?_
        simp only [Act.put, List.setIfInBounds_toArray, List.set_cons_zero, List.set_cons_succ]
        refine hSkip (i := 19) rfl (by kernel_rfl) (by kernel_rfl) (by kernel_rfl) (by rfl) hH ?_
        simp only [Act.put, List.setIfInBounds_toArray, List.set_cons_zero, List.set_cons_succ]
        refine hSkip (i := 20) rfl (by kernel_rfl) (by kernel_rfl) (by kernel_rfl) (by rfl) hH ?_
        simp only [Act.put, List.setIfInBounds_toArray, List.set_cons_zero, List.set_cons_succ]
        refine hSkip (i := 21) rfl (by kernel_rfl) (by kernel_rfl) (by kernel_rfl) (by rfl) hH ?_
        simp only [Act.put, List.setIfInBounds_toArray, List.set_cons_zero, List.set_cons_succ]
        refine hSkip (i := 22) rfl (by kernel_rfl) (by kernel_rfl) (by kernel_rfl) (by rfl) hH ?_
        simp only [Act.put, List.setIfInBounds_toArray, List.set_cons_zero, List.set_cons_succ]
        refine hSkip (i := 23) rfl (by kernel_rfl) (by kernel_rfl) (by kernel_rfl) (by rfl) hH ?_
        simp only [Act.put, List.setIfInBounds_toArray, List.set_cons_zero, List.set_cons_succ]
        refine hSkip (i := 24) rfl (by kernel_rfl) (by kernel_rfl) (by kernel_rfl) (by rfl) hH ?_
        simp only [Act.put, List.setIfInBounds_toArray, List.set_cons_zero, List.set_cons_succ]
        refine hSkip (i := 25) rfl (by kernel_rfl) (by kernel_rfl) (by kernel_rfl) (by rfl) hH ?_
        simp only [Act.put, List.setIfInBounds_toArray, List.set_cons_zero, List.set_cons_succ]
        refine hSkip (i := 26) rfl (by kernel_rfl) (by kernel_rfl) (by kernel_rfl) (by rfl) hH ?_
        simp only [Act.put, List.setIfInBounds_toArray, List.set_cons_zero, List.set_cons_succ]
        refine hSkip (i := 27) rfl (by kernel_rfl) (by kernel_rfl) (by kernel_rfl) (by rfl) hH ?_
        simp only [Act.put, List.setIfInBounds_toArray, List.set_cons_zero, List.set_cons_succ]
        refine hSkip (i := 28) rfl (by kernel_rfl) (by kernel_rfl) (by kernel_rfl) (by rfl) hH ?_
        simp only [Act.put, List.setIfInBounds_toArray, List.set_cons_zero, List.set_cons_succ]
        refine hSkip (i := 29) rfl (by kernel_rfl) (by kernel_rfl) (by kernel_rfl) (by rfl) hH ?_
        simp only [Act.put, List.setIfInBounds_toArray, List.set_cons_zero, List.set_cons_succ]
        refine hSkip (i := 30) rfl (by kernel_rfl) (by kernel_rfl) (by kernel_rfl) (by rfl) hH ?_
        simp only [Act.put, List.setIfInBounds_toArray, List.set_cons_zero, List.set_cons_succ]
        refine hSkip (i := 31) rfl (by kernel_rfl) (by kernel_rfl) (by kernel_rfl) (by rfl) hH ?_
        simp only [Act.put, List.setIfInBounds_toArray, List.set_cons_zero, List.set_cons_succ]
        refine hSkip (i := 32) rfl (by kernel_rfl) (by kernel_rfl) (by kernel_rfl) (by rfl) hH ?_
        simp only [Act.put, List.setIfInBounds_toArray, List.set_cons_zero, List.set_cons_succ]
        refine hTake (i := 33) (v := ?_) rfl (by kernel_rfl) (by kernel_rfl) (by kernel_rfl) (by rfl) ?_ hH ?_
        rotate_left
        · intro W hW; (try dsimp only at hW); go_simp <;> with_reducible rfl
        simp only [Act.put, List.setIfInBounds_toArray, List.set_cons_zero, List.set_cons_succ]
        refine wpAnyH_done (by kernel_rfl) ?_ _
        refine NoPanic.normal ?_
        clear z0 z1 hW ll
        go_wp2_with fail
        refine wp_region_noPanic ?_
        refine wp_region_held_drew (S := fun W' => W'.cell? ⟨w.heap.size, 0, none⟩ = some (.int .i64 t) ∧ W'.cell? ⟨w.heap.size, 1, none⟩ = some (.int .i64 m) ∧ w.heap.size < W'.heap.size ∧ Below w.heap.size w W') (by kernel_rfl) (⟨hH.1, hH.2.1, hH.2.2.1, hH.2.2.2.drew⟩) (fun hH => ?_)
        refine hTake (i := 0) (v := ?_) rfl (by kernel_rfl) (by kernel_rfl) (by kernel_rfl) (by rfl) ?_ hH ?_
        rotate_left
        · intro W hW; (try dsimp only at hW); go_simp <;> with_reducible rfl
        simp only [Act.put, List.setIfInBounds_toArray, List.set_cons_zero, List.set_cons_succ]
        refine hTake (i := 1) (v := ?_) rfl (by kernel_rfl) (by kernel_rfl) (by kernel_rfl) (by rfl) ?_ hH ?_
        rotate_left
        · intro W hW; (try dsimp only at hW); go_simp <;> with_reducible rfl
        simp only [Act.put, List.setIfInBounds_toArray, List.set_cons_zero, List.set_cons_succ]
        refine hTake (i := 2) (v := ?_) rfl (by kernel_rfl) (by kernel_rfl) (by kernel_rfl) (by rfl) ?_ hH ?_
        rotate_left
        · intro W hW; (try dsimp only at hW); go_simp <;> with_reducible rfl
        simp only [Act.put, List.setIfInBounds_toArray, List.set_cons_zero, List.set_cons_succ]
        refine hTake (i := 3) (v := ?_) rfl (by kernel_rfl) (by kernel_rfl) (by kernel_rfl) (by rfl) ?_ hH ?_
        rotate_left
        · intro W hW; (try dsimp only at hW); go_simp <;> with_reducible rfl
        simp only [Act.put, List.setIfInBounds_toArray, List.set_cons_zero, List.set_cons_succ]
        refine hTake (i := 4) (v := ?_) rfl (by kernel_rfl) (by kernel_rfl) (by kernel_rfl) (by rfl) ?_ hH ?_
        rotate_left
        · intro W hW; (try dsimp only at hW); go_simp <;> with_reducible rfl
        simp only [Act.put, List.setIfInBounds_toArray, List.set_cons_zero, List.set_cons_succ]
        refine hSkip (i := 5) rfl (by kernel_rfl) (by kernel_rfl) (by kernel_rfl) (by rfl) hH ?_
        simp only [Act.put, List.setIfInBounds_toArray, List.set_cons_zero, List.set_cons_succ]
        refine hSkip (i := 6) rfl (by kernel_rfl) (by kernel_rfl) (by kernel_rfl) (by rfl) hH ?_
        simp only [Act.put, List.setIfInBounds_toArray, List.set_cons_zero, List.set_cons_succ]
        refine hSkip (i := 7) rfl (by kernel_rfl) (by kernel_rfl) (by kernel_rfl) (by rfl) hH ?_
        simp only [Act.put, List.setIfInBounds_toArray, List.set_cons_zero, List.set_cons_succ]
        refine hSkip (i := 8) rfl (by kernel_rfl) (by kernel_rfl) (by kernel_rfl) (by rfl) hH ?_
        simp only [Act.put, List.setIfInBounds_toArray, List.set_cons_zero, List.set_cons_succ]
        refine hSkip (i := 9) rfl (by kernel_rfl) (by kernel_rfl) (by kernel_rfl) (by rfl) hH ?_
        simp only [Act.put, List.setIfInBounds_toArray, List.set_cons_zero, List.set_cons_succ]
        refine hSkip (i := 10) rfl (by kernel_rfl) (by kernel_rfl) (by kernel_rfl) (by rfl) hH ?_
        simp only [Act.put, List.setIfInBounds_toArray, List.set_cons_zero, List.set_cons_succ]
        refine hTake (i := 11) (v := ?_) rfl (by kernel_rfl) (by kernel_rfl) (by kernel_rfl) (by rfl) ?_ hH ?_
        rotate_left
        · intro W hW; (try dsimp only at hW); go_simp <;> with_reducible rfl
        simp only [Act.put, List.setIfInBounds_toArray, List.set_cons_zero, List.set_cons_succ]
        refine wpAnyH_done (by kernel_rfl) ?_ _
        refine NoPanic.normal ?_
        go_wp2_with fail
        generalize wr.drew.drew = wp at *
        have hkc : k ≤ c := by omega
        have hck2 : ¬ c = k := by omega
        have H1a : ∀ u ∈ (hcells es).take (k * 2), u.oneCell' = true := fun u hu => hcells_one' es u (List.mem_of_mem_take hu)
        have H1b : ∀ u ∈ (hcells es).drop (k * 2), u.oneCell' = true := fun u hu => hcells_one' es u (List.mem_of_mem_drop hu)
        have hCa := cut_take h4 (k := k * 2) (by omega)
        have hCb : CellsAt w (some ⟨g, k * 2, none⟩) (0 * 2) ((hcells es).drop (k * 2)) := by have := cut_drop h4 (k := k * 2) (by omega); rw [Nat.zero_add, Nat.sub_self] at this; simpa using this
        refine wp_region_noPanic ?_
        refine wp_region_held_drew (S := fun W' => W'.cell? ⟨w.heap.size, 0, none⟩ = some (.int .i64 t) ∧ W'.cell? ⟨w.heap.size, 1, none⟩ = some (.int .i64 m) ∧ w.heap.size < W'.heap.size ∧ Below w.heap.size w W') (by kernel_rfl) (⟨hH.1, hH.2.1, hH.2.2.1, hH.2.2.2.drew⟩) (fun hH => ?_)
        generalize wp.drew = wq at *
        refine hTake (i := 1) (v := ?_) rfl (by kernel_rfl) (by kernel_rfl) (by kernel_rfl) (by rfl) ?_ hH ?_
        rotate_left
        · intro W hW; (try dsimp only at hW); go_simp <;> with_reducible rfl
        simp only [Act.put, List.setIfInBounds_toArray, List.set_cons_zero, List.set_cons_succ]
        refine hTake (i := 2) (v := ?_) rfl (by kernel_rfl) (by kernel_rfl) (by kernel_rfl) (by rfl) ?_ hH ?_
        rotate_left
        · intro W hW; (try dsimp only at hW); go_simp <;> with_reducible rfl
        simp only [Act.put, List.setIfInBounds_toArray, List.set_cons_zero, List.set_cons_succ]
        refine hTake (i := 3) (v := ?_) rfl (by kernel_rfl) (by kernel_rfl) (by kernel_rfl) (by rfl) ?_ hH ?_
        rotate_left
        · intro W hW; (try dsimp only at hW); go_simp <;> with_reducible rfl
        simp only [Act.put, List.setIfInBounds_toArray, List.set_cons_zero, List.set_cons_succ]
        refine hTake (i := 5) (v := ?_) rfl (by kernel_rfl) (by kernel_rfl) (by kernel_rfl) (by rfl) ?_ hH ?_
        rotate_left
        · intro W hW; (try dsimp only at hW); go_simp <;> with_reducible rfl
        simp only [Act.put, List.setIfInBounds_toArray, List.set_cons_zero, List.set_cons_succ]
        refine hTake (i := 8) (v := ?_) rfl (by kernel_rfl) (by kernel_rfl) (by kernel_rfl) (by rfl) ?_ hH ?_
        rotate_left
        · intro W hW; (try dsimp only at hW); go_simp <;> with_reducible rfl
        simp only [Act.put, List.setIfInBounds_toArray, List.set_cons_zero, List.set_cons_succ]
        refine hTake (i := 9) (v := ?_) rfl (by kernel_rfl) (by kernel_rfl) (by kernel_rfl) (by rfl) ?_ hH ?_
        rotate_left
        · intro W hW; (try dsimp only at hW); go_simp <;> with_reducible rfl
        simp only [Act.put, List.setIfInBounds_toArray, List.set_cons_zero, List.set_cons_succ]
        refine hTake (i := 10) (v := ?_) rfl (by kernel_rfl) (by kernel_rfl) (by kernel_rfl) (by rfl) ?_ hH ?_
        rotate_left
        · intro W hW; (try dsimp only at hW); go_simp <;> with_reducible rfl
        simp only [Act.put, List.setIfInBounds_toArray, List.set_cons_zero, List.set_cons_succ]
        refine wpAnyH_ready (rs := [0, 6]) (by kernel_rfl) (by simp) ?_
        refine AllReadyH.cons rfl (fun K hK => ?_) (AllReadyH.cons rfl (fun K hK => ?_) AllReadyH.nil)
        · have oE := owns_base (base' := w.heap.size + 1) (new_empty wq 46 2) (by have := hH.2.2.1; omega)
          have kE : Below wq.heap.size wq (wq.alloc (.cells #[] 46)) := (Below.refl _ _).alloc (Nat.le_refl _) _
          go_simp
          refine hK.out _ _ ⟨keep_cell kE hH.1, keep_cell kE hH.2.1, Nat.lt_of_lt_of_le hH.2.2.1 kE.size, hH.2.2.2.trans (kE.mono hH.2.2.2.size)⟩ (fun hH => ?_)
          clear hK K
          clear kE
          refine wpAnyH_ready (rs := [4, 6]) (by kernel_rfl) (by simp) ?_
          refine AllReadyH.cons rfl (fun K hK => ?_) (AllReadyH.cons rfl (fun K hK => ?_) AllReadyH.nil)
          · have hCx := hCa.below hH.2.2.2
            refine step_appX Try.underlying38 Try.underlying38 gi0 gz0 gz1 gz2 rfl (by omega) (by omega) (.tmp 55) (.tmp 58) rfl rfl (w.heap.size + 1) (.slice (some ⟨wq.heap.size, 0, none⟩) 0 0) 0 [] (some ⟨g, 0, none⟩) k c ((hcells es).take (k * 2)) rfl rfl oE hCx H1a (by omega) (by omega) ?_
            intro a5 c5 w5 own5 gr5 at5
            simp only [Nat.zero_add, List.nil_append] at own5 at5 ⊢
            refine hK.out _ _ ⟨grown_cell gr5 hH.1 (fun e => by have := (owns_lt oE _ e).1; omega), grown_cell gr5 hH.2.1 (fun e => by have := (owns_lt oE _ e).1; omega), Nat.lt_of_lt_of_le hH.2.2.1 gr5.size, hH.2.2.2.grown gr5 hH.2.2.2.size (fun g hg => by have := (owns_lt oE g hg).1; omega)⟩ (fun hH => ?_)
            clear hK K gr5 at5 oE hCx
            simp only [Act.put, List.setIfInBounds_toArray, List.set_cons_zero, List.set_cons_succ]
            refine wpAnyH_ready (rs := [6]) (by kernel_rfl) (by simp) ?_
            refine AllReadyH.cons rfl (fun K hK => ?_) AllReadyH.nil
            · have kN : Below w5.heap.size w5 (w5.alloc (.cells #[.int .i64 t, .int .i64 m] 46)) := (Below.refl _ _).alloc (Nat.le_refl _) _
              have hCN := new_hold w5 t m 46
              go_simp
              refine hK.out _ _ ⟨keep_cell kN hH.1, keep_cell kN hH.2.1, Nat.lt_of_lt_of_le hH.2.2.1 kN.size, hH.2.2.2.trans (kN.mono hH.2.2.2.size)⟩ (fun hH => ?_)
              clear hK K
              replace own5 := owns_below own5 kN
              clear kN
              refine wpAnyH_ready (rs := [7]) (by kernel_rfl) (by simp) ?_
              refine AllReadyH.cons rfl (fun K hK => ?_) AllReadyH.nil
              · refine step_appX Try.underlying38 Try.underlying38 gi0 gz0 gz1 gz2 rfl (by omega) (by omega) (.tmp 59) (.tmp 61) rfl rfl (w.heap.size + 1) (.slice a5 k c5) k ((hcells es).take (k * 2)) _ 1 1 (hcells [⟨t, m⟩]) rfl rfl own5 hCN (hcells_one' _) (by omega) (by omega) ?_
                intro a7 c7 w7 own7 gr7 at7
                refine hK.out _ _ ⟨grown_cell gr7 hH.1 (fun e => by have := (owns_lt own5 _ e).1; omega), grown_cell gr7 hH.2.1 (fun e => by have := (owns_lt own5 _ e).1; omega), Nat.lt_of_lt_of_le hH.2.2.1 gr7.size, hH.2.2.2.grown gr7 hH.2.2.2.size (fun g hg => by have := (owns_lt own5 g hg).1; omega)⟩ (fun hH => ?_)
                clear hK K gr7 at7 own5 hCN
                simp only [Act.put, List.setIfInBounds_toArray, List.set_cons_zero, List.set_cons_succ]
                have hCd := hCb.below hH.2.2.2
                refine wpAnyH_ready (rs := [11]) (by kernel_rfl) (by simp) ?_
                refine AllReadyH.cons rfl (fun K hK => ?_) AllReadyH.nil
                refine step_appX Try.underlying38 Try.underlying38 gi0 gz0 gz1 gz2 rfl (by omega) (by omega) (.tmp 62) (.tmp 65) rfl rfl (w.heap.size + 1) (.slice a7 (k + 1) c7) (k + 1) _ (some ⟨g, k * 2, none⟩) 0 (c - k) ((hcells es).drop (k * 2)) rfl rfl own7 hCd H1b (by omega) (by omega) ?_
                intro a8 c8 w8 own8 gr8 at8
                refine hK.out _ _ ⟨grown_cell gr8 hH.1 (fun e => by have := (owns_lt own7 _ e).1; omega), grown_cell gr8 hH.2.1 (fun e => by have := (owns_lt own7 _ e).1; omega), Nat.lt_of_lt_of_le hH.2.2.1 gr8.size, hH.2.2.2.grown gr8 hH.2.2.2.size (fun g hg => by have := (owns_lt own7 g hg).1; omega)⟩ (fun hH => ?_)
                clear hK K gr8 at8 own7 hCd
                simp only [Act.put, List.setIfInBounds_toArray, List.set_cons_zero, List.set_cons_succ]
                refine hTake (i := 12) (v := ?_) rfl (by kernel_rfl) (by kernel_rfl) (by kernel_rfl) (by rfl) ?_ hH ?_
                rotate_left
                · intro W hW; (try dsimp only at hW); go_simp <;> with_reducible rfl
                simp only [Act.put, List.setIfInBounds_toArray, List.set_cons_zero, List.set_cons_succ]
                refine wpAnyH_done (by kernel_rfl) ?_ _
                refine NoPanic.normal ?_
                have en : k + 1 + 0 = k + 1 := by omega
                simp only [en] at own8 ⊢
                rw [← hcells_take, ← hcut_drop es k (by have := HL.out; omega), ← hcells_append, ← hcells_append] at own8
                rw [← HI.out] at own8
                obtain ⟨g8, rfl⟩ := own_at own8 (by omega)
                have O8 := hid (owns_base (base' := B) own8 (by omega))
                have k8 := hid hH.2.2.2
                clear own8 hH
                go_wp2
                exact bodyPost_ret (v := .slice (some ⟨g8, 0, none⟩) (k + 1) c8) (by simp [results, Try.results160, go_sem]) rfl ⟨g8, k + 1, c8, rfl, O8.out, by omega, k8.out⟩
          · have kN : Below (wq.alloc (.cells #[] 46)).heap.size (wq.alloc (.cells #[] 46)) ((wq.alloc (.cells #[] 46)).alloc (.cells #[.int .i64 t, .int .i64 m] 46)) := (Below.refl _ _).alloc (Nat.le_refl _) _
            have hCN := new_hold (wq.alloc (.cells #[] 46)) t m 46
            rw [show (wq.alloc (.cells #[] 46)).heap.size = wq.heap.size + 1 by simp] at hCN
            go_simp
            refine hK.out _ _ ⟨keep_cell kN hH.1, keep_cell kN hH.2.1, Nat.lt_of_lt_of_le hH.2.2.1 kN.size, hH.2.2.2.trans (kN.mono hH.2.2.2.size)⟩ (fun hH => ?_)
            clear hK K
            replace oE := owns_below oE kN
            clear kN
            refine wpAnyH_ready (rs := [4]) (by kernel_rfl) (by simp) ?_
            refine AllReadyH.cons rfl (fun K hK => ?_) AllReadyH.nil
            · have hCx := hCa.below hH.2.2.2
              refine step_appX Try.underlying38 Try.underlying38 gi0 gz0 gz1 gz2 rfl (by omega) (by omega) (.tmp 55) (.tmp 58) rfl rfl (w.heap.size + 1) (.slice (some ⟨wq.heap.size, 0, none⟩) 0 0) 0 [] (some ⟨g, 0, none⟩) k c ((hcells es).take (k * 2)) rfl rfl oE hCx H1a (by omega) (by omega) ?_
              intro a5 c5 w5 own5 gr5 at5
              simp only [Nat.zero_add, List.nil_append] at own5 at5 ⊢
              replace hCN := cells_grown hCN gr5 (fun b off ha e => by cases ha; simp [Value.ownBlock] at e)
              refine hK.out _ _ ⟨grown_cell gr5 hH.1 (fun e => by have := (owns_lt oE _ e).1; omega), grown_cell gr5 hH.2.1 (fun e => by have := (owns_lt oE _ e).1; omega), Nat.lt_of_lt_of_le hH.2.2.1 gr5.size, hH.2.2.2.grown gr5 hH.2.2.2.size (fun g hg => by have := (owns_lt oE g hg).1; omega)⟩ (fun hH => ?_)
              clear hK K gr5 at5 oE hCx
              simp only [Act.put, List.setIfInBounds_toArray, List.set_cons_zero, List.set_cons_succ]
              refine wpAnyH_ready (rs := [7]) (by kernel_rfl) (by simp) ?_
              refine AllReadyH.cons rfl (fun K hK => ?_) AllReadyH.nil
              · refine step_appX Try.underlying38 Try.underlying38 gi0 gz0 gz1 gz2 rfl (by omega) (by omega) (.tmp 59) (.tmp 61) rfl rfl (w.heap.size + 1) (.slice a5 k c5) k ((hcells es).take (k * 2)) _ 1 1 (hcells [⟨t, m⟩]) rfl rfl own5 hCN (hcells_one' _) (by omega) (by omega) ?_
                intro a7 c7 w7 own7 gr7 at7
                refine hK.out _ _ ⟨grown_cell gr7 hH.1 (fun e => by have := (owns_lt own5 _ e).1; omega), grown_cell gr7 hH.2.1 (fun e => by have := (owns_lt own5 _ e).1; omega), Nat.lt_of_lt_of_le hH.2.2.1 gr7.size, hH.2.2.2.grown gr7 hH.2.2.2.size (fun g hg => by have := (owns_lt own5 g hg).1; omega)⟩ (fun hH => ?_)
                clear hK K gr7 at7 own5 hCN
                simp only [Act.put, List.setIfInBounds_toArray, List.set_cons_zero, List.set_cons_succ]
                have hCd := hCb.below hH.2.2.2
                refine wpAnyH_ready (rs := [11]) (by kernel_rfl) (by simp) ?_
                refine AllReadyH.cons rfl (fun K hK => ?_) AllReadyH.nil
                refine step_appX Try.underlying38 Try.underlying38 gi0 gz0 gz1 gz2 rfl (by omega) (by omega) (.tmp 62) (.tmp 65) rfl rfl (w.heap.size + 1) (.slice a7 (k + 1) c7) (k + 1) _ (some ⟨g, k * 2, none⟩) 0 (c - k) ((hcells es).drop (k * 2)) rfl rfl own7 hCd H1b (by omega) (by omega) ?_
                intro a8 c8 w8 own8 gr8 at8
                refine hK.out _ _ ⟨grown_cell gr8 hH.1 (fun e => by have := (owns_lt own7 _ e).1; omega), grown_cell gr8 hH.2.1 (fun e => by have := (owns_lt own7 _ e).1; omega), Nat.lt_of_lt_of_le hH.2.2.1 gr8.size, hH.2.2.2.grown gr8 hH.2.2.2.size (fun g hg => by have := (owns_lt own7 g hg).1; omega)⟩ (fun hH => ?_)
                clear hK K gr8 at8 own7 hCd
                simp only [Act.put, List.setIfInBounds_toArray, List.set_cons_zero, List.set_cons_succ]
                refine hTake (i := 12) (v := ?_) rfl (by kernel_rfl) (by kernel_rfl) (by kernel_rfl) (by rfl) ?_ hH ?_
                rotate_left
                · intro W hW; (try dsimp only at hW); go_simp <;> with_reducible rfl
                simp only [Act.put, List.setIfInBounds_toArray, List.set_cons_zero, List.set_cons_succ]
                refine wpAnyH_done (by kernel_rfl) ?_ _
                refine NoPanic.normal ?_
                have en : k + 1 + 0 = k + 1 := by omega
                simp only [en] at own8 ⊢
                rw [← hcells_take, ← hcut_drop es k (by have := HL.out; omega), ← hcells_append, ← hcells_append] at own8
                rw [← HI.out] at own8
                obtain ⟨g8, rfl⟩ := own_at own8 (by omega)
                have O8 := hid (owns_base (base' := B) own8 (by omega))
                have k8 := hid hH.2.2.2
                clear own8 hH
                go_wp2
                exact bodyPost_ret (v := .slice (some ⟨g8, 0, none⟩) (k + 1) c8) (by simp [results, Try.results160, go_sem]) rfl ⟨g8, k + 1, c8, rfl, O8.out, by omega, k8.out⟩
        · have kN : Below wq.heap.size wq (wq.alloc (.cells #[.int .i64 t, .int .i64 m] 46)) := (Below.refl _ _).alloc (Nat.le_refl _) _
          have hCN := new_hold wq t m 46
          go_simp
          refine hK.out _ _ ⟨keep_cell kN hH.1, keep_cell kN hH.2.1, Nat.lt_of_lt_of_le hH.2.2.1 kN.size, hH.2.2.2.trans (kN.mono hH.2.2.2.size)⟩ (fun hH => ?_)
          clear hK K
          clear kN
          refine wpAnyH_ready (rs := [0]) (by kernel_rfl) (by simp) ?_
          refine AllReadyH.cons rfl (fun K hK => ?_) AllReadyH.nil
          · have oE := owns_base (base' := w.heap.size + 1) (new_empty (wq.alloc (.cells #[.int .i64 t, .int .i64 m] 46)) 46 2) (by have := hH.2.2.1; omega)
            have kE : Below (wq.alloc (.cells #[.int .i64 t, .int .i64 m] 46)).heap.size (wq.alloc (.cells #[.int .i64 t, .int .i64 m] 46)) ((wq.alloc (.cells #[.int .i64 t, .int .i64 m] 46)).alloc (.cells #[] 46)) := (Below.refl _ _).alloc (Nat.le_refl _) _
            rw [show (wq.alloc (.cells #[.int .i64 t, .int .i64 m] 46)).heap.size = wq.heap.size + 1 by simp] at oE
            go_simp
            refine hK.out _ _ ⟨keep_cell kE hH.1, keep_cell kE hH.2.1, Nat.lt_of_lt_of_le hH.2.2.1 kE.size, hH.2.2.2.trans (kE.mono hH.2.2.2.size)⟩ (fun hH => ?_)
            clear hK K
            replace hCN := hCN.below kE
            clear kE
            refine wpAnyH_ready (rs := [4]) (by kernel_rfl) (by simp) ?_
            refine AllReadyH.cons rfl (fun K hK => ?_) AllReadyH.nil
            · have hCx := hCa.below hH.2.2.2
              refine step_appX Try.underlying38 Try.underlying38 gi0 gz0 gz1 gz2 rfl (by omega) (by omega) (.tmp 55) (.tmp 58) rfl rfl (w.heap.size + 1) (.slice (some ⟨wq.heap.size + 1, 0, none⟩) 0 0) 0 [] (some ⟨g, 0, none⟩) k c ((hcells es).take (k * 2)) rfl rfl oE hCx H1a (by omega) (by omega) ?_
              intro a5 c5 w5 own5 gr5 at5
              simp only [Nat.zero_add, List.nil_append] at own5 at5 ⊢
              replace hCN := cells_grown hCN gr5 (fun b off ha e => by cases ha; simp [Value.ownBlock] at e)
              refine hK.out _ _ ⟨grown_cell gr5 hH.1 (fun e => by have := (owns_lt oE _ e).1; omega), grown_cell gr5 hH.2.1 (fun e => by have := (owns_lt oE _ e).1; omega), Nat.lt_of_lt_of_le hH.2.2.1 gr5.size, hH.2.2.2.grown gr5 hH.2.2.2.size (fun g hg => by have := (owns_lt oE g hg).1; omega)⟩ (fun hH => ?_)
              clear hK K gr5 at5 oE hCx
              simp only [Act.put, List.setIfInBounds_toArray, List.set_cons_zero, List.set_cons_succ]
              refine wpAnyH_ready (rs := [7]) (by kernel_rfl) (by simp) ?_
              refine AllReadyH.cons rfl (fun K hK => ?_) AllReadyH.nil
              · refine step_appX Try.underlying38 Try.underlying38 gi0 gz0 gz1 gz2 rfl (by omega) (by omega) (.tmp 59) (.tmp 61) rfl rfl (w.heap.size + 1) (.slice a5 k c5) k ((hcells es).take (k * 2)) _ 1 1 (hcells [⟨t, m⟩]) rfl rfl own5 hCN (hcells_one' _) (by omega) (by omega) ?_
                intro a7 c7 w7 own7 gr7 at7
                refine hK.out _ _ ⟨grown_cell gr7 hH.1 (fun e => by have := (owns_lt own5 _ e).1; omega), grown_cell gr7 hH.2.1 (fun e => by have := (owns_lt own5 _ e).1; omega), Nat.lt_of_lt_of_le hH.2.2.1 gr7.size, hH.2.2.2.grown gr7 hH.2.2.2.size (fun g hg => by have := (owns_lt own5 g hg).1; omega)⟩ (fun hH => ?_)
                clear hK K gr7 at7 own5 hCN
                simp only [Act.put, List.setIfInBounds_toArray, List.set_cons_zero, List.set_cons_succ]
                have hCd := hCb.below hH.2.2.2
                refine wpAnyH_ready (rs := [11]) (by kernel_rfl) (by simp) ?_
                refine AllReadyH.cons rfl (fun K hK => ?_) AllReadyH.nil
                refine step_appX Try.underlying38 Try.underlying38 gi0 gz0 gz1 gz2 rfl (by omega) (by omega) (.tmp 62) (.tmp 65) rfl rfl (w.heap.size + 1) (.slice a7 (k + 1) c7) (k + 1) _ (some ⟨g, k * 2, none⟩) 0 (c - k) ((hcells es).drop (k * 2)) rfl rfl own7 hCd H1b (by omega) (by omega) ?_
                intro a8 c8 w8 own8 gr8 at8
                refine hK.out _ _ ⟨grown_cell gr8 hH.1 (fun e => by have := (owns_lt own7 _ e).1; omega), grown_cell gr8 hH.2.1 (fun e => by have := (owns_lt own7 _ e).1; omega), Nat.lt_of_lt_of_le hH.2.2.1 gr8.size, hH.2.2.2.grown gr8 hH.2.2.2.size (fun g hg => by have := (owns_lt own7 g hg).1; omega)⟩ (fun hH => ?_)
                clear hK K gr8 at8 own7 hCd
                simp only [Act.put, List.setIfInBounds_toArray, List.set_cons_zero, List.set_cons_succ]
                refine hTake (i := 12) (v := ?_) rfl (by kernel_rfl) (by kernel_rfl) (by kernel_rfl) (by rfl) ?_ hH ?_
                rotate_left
                · intro W hW; (try dsimp only at hW); go_simp <;> with_reducible rfl
                simp only [Act.put, List.setIfInBounds_toArray, List.set_cons_zero, List.set_cons_succ]
                refine wpAnyH_done (by kernel_rfl) ?_ _
                refine NoPanic.normal ?_
                have en : k + 1 + 0 = k + 1 := by omega
                simp only [en] at own8 ⊢
                rw [← hcells_take, ← hcut_drop es k (by have := HL.out; omega), ← hcells_append, ← hcells_append] at own8
                rw [← HI.out] at own8
                obtain ⟨g8, rfl⟩ := own_at own8 (by omega)
                have O8 := hid (owns_base (base' := B) own8 (by omega))
                have k8 := hid hH.2.2.2
                clear own8 hH
                go_wp2
                exact bodyPost_ret (v := .slice (some ⟨g8, 0, none⟩) (k + 1) c8) (by simp [results, Try.results160, go_sem]) rfl ⟨g8, k + 1, c8, rfl, O8.out, by omega, k8.out⟩
end Go.Proofs.Ytjagobcogkdfhaa


/- The model's edges of locks. -/
namespace Go.Proofs.Ytjagobcogkdfhaa
open Go.RowKit

theorem Ch.fits_tab {a b : Int} (ha : Ch.isM a = true) (hb : Ch.isM b = true) : Ch.tab Ch.fitT a b = Ch.fits a b := by
  unfold Ch.fits; rw [ha, hb]; rfl
theorem Ch.good_in {ls : List Ch.Lock} (h : Ch.locksFault ls = 0) {i : Nat} (hi : i < ls.length) : (Ch.lkAt ls i).hs.length ≤ 20 ∧ (Ch.lkAt ls i).qs.length ≤ 20 ∧ Ch.namesH (Ch.lkAt ls i).hs = true ∧ Ch.namesH (Ch.lkAt ls i).qs = true := by
  have := Ch.lock_good (Ch.one_good ((Ch.locks_good h).1 i hi)).2.2.2
  exact ⟨this.1, this.2.1, this.2.2.1, this.2.2.2.1⟩
/-- What l7Edges answers. -/
def EdgD (ls : List Ch.Lock) (w : World) (e : Ending) (w' : World) : Prop :=
  ∃ g m c, e = .returned (.slice (some ⟨g, 0, none⟩) m c) ∧ m ≤ 100000 ∧ w'.ownsRow w.heap.size 46 2 (.slice (some ⟨g, 0, none⟩) m c) m (hcells (Ch.sortE (Ch.allE ls))) ∧ Below w.heap.size w w'

set_option linter.unusedSimpArgs false in
set_option maxRecDepth 20000 in
set_option maxHeartbeats 8000000 in
theorem l7Edges_any (a : Option Addr) (n cap : Nat) (ls : List Ch.Lock) (w : World) (h : LkAt w a n ls) (hg : Ch.locksFault ls = 0) :
    Calls Try.prog 94 #[.slice a n cap] w fun e w' => EdgD ls w e w' := by
  have HL := h.len
  have HG := hid hg
  have hn : n ≤ 101 := by have := Ch.good_few hg; have := HL.out; omega
  obtain ⟨W0, hW0⟩ : ∃ W0, w.heap.size = W0 := ⟨_, rfl⟩
  have oE := new_empty w 46 2
  rw [hW0] at oE
  have kE : Below w.heap.size w (w.alloc (.cells #[] 46)) := (Below.refl _ _).alloc (Nat.le_refl _) _
  clear hg
  go_enter Try.func94, Try.ntmps94
  go_wp2
  go_loopw [3, 4] (fun q i wr => ∃ (I m g c : Nat), I ≤ n ∧ i = .int .i64 I ∧ q = .slice (some ⟨g, 0, none⟩) m c ∧ wr.ownsRow W0 46 2 (.slice (some ⟨g, 0, none⟩) m c) m (hcells (Ch.sortE (Ch.allE (ls.take I)))) ∧ m ≤ 800 * I ∧ Below w.heap.size w wr) (fun _ i _ => n - (intOf i).toNat)
  case atStart => exact ⟨0, 0, _, 0, Nat.zero_le _, rfl, rfl, oE, Nat.le_refl _, kE⟩
  case round =>
    clear oE kE
    obtain ⟨I, m, g, c, hI, rfl, rfl, own, hm, hB⟩ := hrel
    generalize wr = wA at *
    by_cases hlt : I < n
    · have hIl : I < ls.length := by have := HL.out; omega
      have HGK := hid (Ch.good_in HG.out hIl)
      have HAN := hid (Ch.allE_next hIl)
      obtain ⟨b, off, ah, nh, ch, aq, nq, cq, rfl, c0, c1, c2, h3, h4, _, _, _, _⟩ := (h.below hB).lock hlt
      have HQN := hid (fun k => Ch.queueE_next (Ch.lkAt ls I) k)
      generalize Ch.lkAt ls I = l at *
      obtain ⟨r, hs, qs⟩ := l
      simp only at c0 h3 h4 HGK HAN HQN
      have HH := h3.hlen
      have HQ := h4.hlen
      have hnh : nh ≤ 20 := by have := HGK.out.1; have := HH.out; omega
      have hnq : nq ≤ 20 := by have := HGK.out.2.1; have := HQ.out; omega
      have hbl := lt_of_cell c0
      have hq0 : Hid (Ch.allE (ls.take I) ++ Ch.queueE ⟨r, hs, qs⟩ 0 = Ch.allE (ls.take I)) := by show _ = _; simp [Ch.queueE]
      obtain ⟨A0, HA0⟩ : ∃ A0, Hid (Ch.allE (ls.take I) = A0) := ⟨_, rfl⟩
      rw [HA0.out] at own HAN hq0
      obtain ⟨QE, HQE⟩ : ∃ QE : Nat → List Ch.Hold, Hid (∀ k, Ch.queueE ⟨r, hs, qs⟩ k = QE k) := ⟨_, fun _ => rfl⟩
      rw [HQE.out] at hq0 HAN
      have HQN2 : Hid (∀ k, QE (k + 1) = QE k ++ (Ch.waitE (qs.getD k Ch.Hold.zero) hs ++ Ch.aheadE (qs.getD k Ch.Hold.zero) (qs.take k))) := fun k => by rw [← HQE.out, ← HQE.out]; exact HQN.out k
      clear HQN HQE
      go_wp2
      go_loopw [3, 6] (fun q i wx => ∃ (k m g c : Nat), k ≤ nq ∧ i = .int .i64 k ∧ q = .slice (some ⟨g, 0, none⟩) m c ∧ wx.ownsRow W0 46 2 (.slice (some ⟨g, 0, none⟩) m c) m (hcells (Ch.sortE (A0 ++ QE k))) ∧ m ≤ 800 * I + 40 * k ∧ Below wA.heap.size wA wx) (fun _ i _ => nq - (intOf i).toNat)
      case atStart => exact ⟨0, m, g, c, Nat.zero_le _, rfl, rfl, by rw [hq0.out]; exact own, by omega, Below.refl _ _⟩
      case round =>
        clear own hm hq0
        obtain ⟨k, m, g, c, hk, rfl, rfl, own, hm, hX⟩ := hrel
        generalize wr = wx at *
        have p1 := keep_cell hX c1
        have p2 := keep_cell hX c2
        have hbx := lt_of_cell p1
        by_cases hlk : k < nq
        · have hkl : k < qs.length := by have := HQ.out; omega
          have HQK := hid (HQN2.out k)
          have HNQ := hid (Ch.name_mode (Ch.names_at HGK.out.2.2.2 hkl))
          obtain ⟨qb, qo, rfl, q0, q1⟩ := (h4.below hX).hold hlk
          have hqb := lt_of_cell q0
          generalize qs.getD k Ch.Hold.zero = qq at *
          obtain ⟨qt, qm⟩ := qq
          simp only at q0 q1 HNQ
          have kB : Below wx.heap.size wx (wx.alloc (.cells #[.int .i64 qt, .int .i64 qm] 131)) := (Below.refl _ _).alloc (Nat.le_refl _) _
          obtain ⟨z0, z1, _, _⟩ := row2 (heap_alloc_new wx (.cells #[.int .i64 qt, .int .i64 qm] 131))
          have own1 := owns_below own kB
          have hX1 := hX.trans (kB.mono hX.size)
          have s1 := keep_cell kB p1
          have s2 := keep_cell kB p2
          have ls1 := lt_of_cell s1
          have lz := lt_of_cell z0
          obtain ⟨PX, hPX⟩ : ∃ PX, wx.heap.size = PX := ⟨_, rfl⟩
          go_wp2
          clear own q0 q1 kB p1 p2 hbx
          rw [hPX] at z0 z1 lz
          generalize wx.alloc (.cells #[.int .i64 qt, .int .i64 qm] 131) = X at *
          go_loopw [3, 8] (fun q i wy => ∃ (j m g c : Nat), j ≤ nh ∧ i = .int .i64 j ∧ q = .slice (some ⟨g, 0, none⟩) m c ∧ wy.ownsRow W0 46 2 (.slice (some ⟨g, 0, none⟩) m c) m (hcells (Ch.sortE (A0 ++ QE k ++ Ch.waitE ⟨qt, qm⟩ (hs.take j)))) ∧ m ≤ 800 * I + 40 * k + j ∧ Below X.heap.size X wy) (fun _ i _ => nh - (intOf i).toNat)
          case atStart => exact ⟨0, m, g, c, Nat.zero_le _, rfl, rfl, by simpa [Ch.waitE] using own1, by omega, Below.refl _ _⟩
          case round =>
            clear own1 hm
            obtain ⟨j, m, g, c, hj, rfl, rfl, own, hm, hY⟩ := hrel
            generalize wr = wy at *
            have t1 := keep_cell hY s1
            have t2 := keep_cell hY s2
            have y0 := keep_cell hY z0
            have y1 := keep_cell hY z1
            have lt1 := lt_of_cell t1
            have ly := lt_of_cell y0
            have hXY := hX1.trans (hY.mono hX1.size)
            by_cases hlj : j < nh
            · have hjl : j < hs.length := by have := HH.out; omega
              have HNH := hid (Ch.name_mode (Ch.names_at HGK.out.2.2.1 hjl))
              have HWY := hid (fun he => Ch.waitE_yes (q := ⟨qt, qm⟩) hjl he)
              have HWN := hid (fun he => Ch.waitE_no (q := ⟨qt, qm⟩) hjl he)
              obtain ⟨hb, ho, rfl, r0, r1⟩ := (h3.below hXY).hold hlj
              have hhb := lt_of_cell r0
              generalize hs.getD j Ch.Hold.zero = hh at *
              obtain ⟨rt, rm⟩ := hh
              simp only at r0 r1 HNH HWY HWN
              obtain ⟨f, HF⟩ : ∃ f, Hid (Ch.fits rm qm = f) := ⟨_, rfl⟩
              have IF := fun W => l5Fit_any rm qm W HNH.out.1 HNQ.out.1
              rw [Ch.fits_tab HNH.out.1 HNQ.out.1, HF.out] at IF
              rw [HF.out] at HWY HWN
              by_cases h1 : rt = qt
              · have e1 : (rt != qt) = false := by simpa using h1
                replace HWN := hid (HWN.out (by rw [e1]; rfl))
                clear HWY h1
                go_wp2_with fail
                refine wp_region_noPanic ?_
                refine wp_region_held_drew (S := fun W' => W'.cell? ⟨b, off + I * 3 + 1, none⟩ = some (.slice (some ⟨hb, ho, none⟩) nh ch) ∧ W'.cell? ⟨PX, 0, none⟩ = some (.int .i64 qt) ∧ W'.cell? ⟨PX, 1, none⟩ = some (.int .i64 qm) ∧ W'.cell? ⟨hb, ho + j * 2, none⟩ = some (.int .i64 rt) ∧ W'.cell? ⟨hb, ho + j * 2 + 1, none⟩ = some (.int .i64 rm) ∧ Below X.heap.size X W') (by kernel_rfl) (⟨t1, y0, y1, r0, r1, hY.drew⟩) (fun hH => ?_)
                refine hTake (i := 0) (v := ?_) rfl (by kernel_rfl) (by kernel_rfl) (by kernel_rfl) (by rfl) ?_ hH ?_
                rotate_left
                · intro W hW; (try dsimp only at hW); go_simp <;> with_reducible rfl
                simp only [Act.put, List.setIfInBounds_toArray, List.set_cons_zero, List.set_cons_succ]
                refine hTake (i := 1) (v := ?_) rfl (by kernel_rfl) (by kernel_rfl) (by kernel_rfl) (by rfl) ?_ hH ?_
                rotate_left
                · intro W hW; (try dsimp only at hW); go_simp <;> with_reducible rfl
                simp only [Act.put, List.setIfInBounds_toArray, List.set_cons_zero, List.set_cons_succ]
                refine hTake (i := 2) (v := ?_) rfl (by kernel_rfl) (by kernel_rfl) (by kernel_rfl) (by rfl) ?_ hH ?_
                rotate_left
                · intro W hW; (try dsimp only at hW); go_simp <;> with_reducible rfl
                simp only [Act.put, List.setIfInBounds_toArray, List.set_cons_zero, List.set_cons_succ]
                refine hTake (i := 3) (v := ?_) rfl (by kernel_rfl) (by kernel_rfl) (by kernel_rfl) (by rfl) ?_ hH ?_
                rotate_left
                · intro W hW; (try dsimp only at hW); go_simp <;> with_reducible rfl
                simp only [Act.put, List.setIfInBounds_toArray, List.set_cons_zero, List.set_cons_succ]
                refine hTake (i := 4) (v := ?_) rfl (by kernel_rfl) (by kernel_rfl) (by kernel_rfl) (by rfl) ?_ hH ?_
                rotate_left
                · intro W hW; (try dsimp only at hW); go_simp <;> with_reducible rfl
                simp only [Act.put, List.setIfInBounds_toArray, List.set_cons_zero, List.set_cons_succ]
                refine hTake (i := 5) (v := ?_) rfl (by kernel_rfl) (by kernel_rfl) (by kernel_rfl) (by rfl) ?_ hH ?_
                rotate_left
                · intro W hW; (try dsimp only at hW); go_simp <;> with_reducible rfl
                simp only [Act.put, List.setIfInBounds_toArray, List.set_cons_zero, List.set_cons_succ]
                refine hTake (i := 6) (v := ?_) rfl (by kernel_rfl) (by kernel_rfl) (by kernel_rfl) (by rfl) ?_ hH ?_
                rotate_left
                · intro W hW; (try dsimp only at hW); go_simp <;> with_reducible rfl
                simp only [Act.put, List.setIfInBounds_toArray, List.set_cons_zero, List.set_cons_succ]
                refine hTake (i := 7) (v := ?_) rfl (by kernel_rfl) (by kernel_rfl) (by kernel_rfl) (by rfl) ?_ hH ?_
                rotate_left
                · intro W hW; (try dsimp only at hW); go_simp <;> with_reducible rfl
                simp only [Act.put, List.setIfInBounds_toArray, List.set_cons_zero, List.set_cons_succ]
                refine hTake (i := 8) (v := ?_) rfl (by kernel_rfl) (by kernel_rfl) (by kernel_rfl) (by rfl) ?_ hH ?_
                rotate_left
                · intro W hW; (try dsimp only at hW); go_simp <;> with_reducible rfl
                simp only [Act.put, List.setIfInBounds_toArray, List.set_cons_zero, List.set_cons_succ]
                refine hTake (i := 9) (v := ?_) rfl (by kernel_rfl) (by kernel_rfl) (by kernel_rfl) (by rfl) ?_ hH ?_
                rotate_left
                · intro W hW; (try dsimp only at hW); go_simp <;> with_reducible rfl
                simp only [Act.put, List.setIfInBounds_toArray, List.set_cons_zero, List.set_cons_succ]
                refine hTake (i := 10) (v := ?_) rfl (by kernel_rfl) (by kernel_rfl) (by kernel_rfl) (by rfl) ?_ hH ?_
                rotate_left
                · intro W hW; (try dsimp only at hW); go_simp <;> with_reducible rfl
                simp only [Act.put, List.setIfInBounds_toArray, List.set_cons_zero, List.set_cons_succ]
                refine hTake (i := 11) (v := ?_) rfl (by kernel_rfl) (by kernel_rfl) (by kernel_rfl) (by rfl) ?_ hH ?_
                rotate_left
                · intro W hW; (try dsimp only at hW); go_simp <;> with_reducible rfl
                simp only [Act.put, List.setIfInBounds_toArray, List.set_cons_zero, List.set_cons_succ]
                refine hSkip (i := 12) rfl (by kernel_rfl) (by kernel_rfl) (by kernel_rfl) (by rfl) hH ?_
                simp only [Act.put, List.setIfInBounds_toArray, List.set_cons_zero, List.set_cons_succ]
                refine hSkip (i := 13) rfl (by kernel_rfl) (by kernel_rfl) (by kernel_rfl) (by rfl) hH ?_
                simp only [Act.put, List.setIfInBounds_toArray, List.set_cons_zero, List.set_cons_succ]
                refine hSkip (i := 14) rfl (by kernel_rfl) (by kernel_rfl) (by kernel_rfl) (by rfl) hH ?_
                simp only [Act.put, List.setIfInBounds_toArray, List.set_cons_zero, List.set_cons_succ]
                refine hSkip (i := 15) rfl (by kernel_rfl) (by kernel_rfl) (by kernel_rfl) (by rfl) hH ?_
                simp only [Act.put, List.setIfInBounds_toArray, List.set_cons_zero, List.set_cons_succ]
                refine hSkip (i := 16) rfl (by kernel_rfl) (by kernel_rfl) (by kernel_rfl) (by rfl) hH ?_
                simp only [Act.put, List.setIfInBounds_toArray, List.set_cons_zero, List.set_cons_succ]
                refine hSkip (i := 17) rfl (by kernel_rfl) (by kernel_rfl) (by kernel_rfl) (by rfl) hH ?_
                simp only [Act.put, List.setIfInBounds_toArray, List.set_cons_zero, List.set_cons_succ]
                refine hSkip (i := 18) rfl (by kernel_rfl) (by kernel_rfl) (by kernel_rfl) (by rfl) hH ?_
                simp only [Act.put, List.setIfInBounds_toArray, List.set_cons_zero, List.set_cons_succ]
                refine hSkip (i := 19) rfl (by kernel_rfl) (by kernel_rfl) (by kernel_rfl) (by rfl) hH ?_
                simp only [Act.put, List.setIfInBounds_toArray, List.set_cons_zero, List.set_cons_succ]
                refine hSkip (i := 20) rfl (by kernel_rfl) (by kernel_rfl) (by kernel_rfl) (by rfl) hH ?_
                simp only [Act.put, List.setIfInBounds_toArray, List.set_cons_zero, List.set_cons_succ]
                refine hSkip (i := 21) rfl (by kernel_rfl) (by kernel_rfl) (by kernel_rfl) (by rfl) hH ?_
                simp only [Act.put, List.setIfInBounds_toArray, List.set_cons_zero, List.set_cons_succ]
                refine hSkip (i := 22) rfl (by kernel_rfl) (by kernel_rfl) (by kernel_rfl) (by rfl) hH ?_
                simp only [Act.put, List.setIfInBounds_toArray, List.set_cons_zero, List.set_cons_succ]
                refine hSkip (i := 23) rfl (by kernel_rfl) (by kernel_rfl) (by kernel_rfl) (by rfl) hH ?_
                simp only [Act.put, List.setIfInBounds_toArray, List.set_cons_zero, List.set_cons_succ]
                refine hTake (i := 24) (v := ?_) rfl (by kernel_rfl) (by kernel_rfl) (by kernel_rfl) (by rfl) ?_ hH ?_
                rotate_left
                · intro W hW; (try dsimp only at hW); go_simp <;> with_reducible rfl
                simp only [Act.put, List.setIfInBounds_toArray, List.set_cons_zero, List.set_cons_succ]
                refine wpAnyH_done (by kernel_rfl) ?_ _
                refine NoPanic.normal ?_
                go_wp2
                go_roundw
                case rel => exact ⟨j + 1, m, g, c, by omega, by go_num, rfl, by rw [HWN.out]; exact owns_below own ((Below.refl _ _).drew), by omega, hH.2.2.2.2.2⟩
                case measure => simp [intOf]; omega
              have e1 : (rt != qt) = true := by simpa using h1
              clear h1
              cases f
              · replace HWY := hid (HWY.out (by rw [e1]; rfl))
                clear HWN
                go_wp2_with fail
                refine wp_region_noPanic ?_
                refine wp_region_held_drew (S := fun W' => W'.cell? ⟨b, off + I * 3 + 1, none⟩ = some (.slice (some ⟨hb, ho, none⟩) nh ch) ∧ W'.cell? ⟨PX, 0, none⟩ = some (.int .i64 qt) ∧ W'.cell? ⟨PX, 1, none⟩ = some (.int .i64 qm) ∧ W'.cell? ⟨hb, ho + j * 2, none⟩ = some (.int .i64 rt) ∧ W'.cell? ⟨hb, ho + j * 2 + 1, none⟩ = some (.int .i64 rm) ∧ Below X.heap.size X W') (by kernel_rfl) (⟨t1, y0, y1, r0, r1, hY.drew⟩) (fun hH => ?_)
                refine hTake (i := 0) (v := ?_) rfl (by kernel_rfl) (by kernel_rfl) (by kernel_rfl) (by rfl) ?_ hH ?_
                rotate_left
                · intro W hW; (try dsimp only at hW); go_simp <;> with_reducible rfl
                simp only [Act.put, List.setIfInBounds_toArray, List.set_cons_zero, List.set_cons_succ]
                refine hTake (i := 1) (v := ?_) rfl (by kernel_rfl) (by kernel_rfl) (by kernel_rfl) (by rfl) ?_ hH ?_
                rotate_left
                · intro W hW; (try dsimp only at hW); go_simp <;> with_reducible rfl
                simp only [Act.put, List.setIfInBounds_toArray, List.set_cons_zero, List.set_cons_succ]
                refine hTake (i := 2) (v := ?_) rfl (by kernel_rfl) (by kernel_rfl) (by kernel_rfl) (by rfl) ?_ hH ?_
                rotate_left
                · intro W hW; (try dsimp only at hW); go_simp <;> with_reducible rfl
                simp only [Act.put, List.setIfInBounds_toArray, List.set_cons_zero, List.set_cons_succ]
                refine hTake (i := 3) (v := ?_) rfl (by kernel_rfl) (by kernel_rfl) (by kernel_rfl) (by rfl) ?_ hH ?_
                rotate_left
                · intro W hW; (try dsimp only at hW); go_simp <;> with_reducible rfl
                simp only [Act.put, List.setIfInBounds_toArray, List.set_cons_zero, List.set_cons_succ]
                refine hTake (i := 4) (v := ?_) rfl (by kernel_rfl) (by kernel_rfl) (by kernel_rfl) (by rfl) ?_ hH ?_
                rotate_left
                · intro W hW; (try dsimp only at hW); go_simp <;> with_reducible rfl
                simp only [Act.put, List.setIfInBounds_toArray, List.set_cons_zero, List.set_cons_succ]
                refine hTake (i := 5) (v := ?_) rfl (by kernel_rfl) (by kernel_rfl) (by kernel_rfl) (by rfl) ?_ hH ?_
                rotate_left
                · intro W hW; (try dsimp only at hW); go_simp <;> with_reducible rfl
                simp only [Act.put, List.setIfInBounds_toArray, List.set_cons_zero, List.set_cons_succ]
                refine hTake (i := 6) (v := ?_) rfl (by kernel_rfl) (by kernel_rfl) (by kernel_rfl) (by rfl) ?_ hH ?_
                rotate_left
                · intro W hW; (try dsimp only at hW); go_simp <;> with_reducible rfl
                simp only [Act.put, List.setIfInBounds_toArray, List.set_cons_zero, List.set_cons_succ]
                refine hTake (i := 7) (v := ?_) rfl (by kernel_rfl) (by kernel_rfl) (by kernel_rfl) (by rfl) ?_ hH ?_
                rotate_left
                · intro W hW; (try dsimp only at hW); go_simp <;> with_reducible rfl
                simp only [Act.put, List.setIfInBounds_toArray, List.set_cons_zero, List.set_cons_succ]
                refine hTake (i := 8) (v := ?_) rfl (by kernel_rfl) (by kernel_rfl) (by kernel_rfl) (by rfl) ?_ hH ?_
                rotate_left
                · intro W hW; (try dsimp only at hW); go_simp <;> with_reducible rfl
                simp only [Act.put, List.setIfInBounds_toArray, List.set_cons_zero, List.set_cons_succ]
                refine hTake (i := 9) (v := ?_) rfl (by kernel_rfl) (by kernel_rfl) (by kernel_rfl) (by rfl) ?_ hH ?_
                rotate_left
                · intro W hW; (try dsimp only at hW); go_simp <;> with_reducible rfl
                simp only [Act.put, List.setIfInBounds_toArray, List.set_cons_zero, List.set_cons_succ]
                refine hTake (i := 10) (v := ?_) rfl (by kernel_rfl) (by kernel_rfl) (by kernel_rfl) (by rfl) ?_ hH ?_
                rotate_left
                · intro W hW; (try dsimp only at hW); go_simp <;> with_reducible rfl
                simp only [Act.put, List.setIfInBounds_toArray, List.set_cons_zero, List.set_cons_succ]
                refine hTake (i := 11) (v := ?_) rfl (by kernel_rfl) (by kernel_rfl) (by kernel_rfl) (by rfl) ?_ hH ?_
                rotate_left
                · intro W hW; (try dsimp only at hW); go_simp <;> with_reducible rfl
                simp only [Act.put, List.setIfInBounds_toArray, List.set_cons_zero, List.set_cons_succ]
                refine hTake (i := 12) (v := ?_) rfl (by kernel_rfl) (by kernel_rfl) (by kernel_rfl) (by rfl) ?_ hH ?_
                rotate_left
                · intro W hW; (try dsimp only at hW); go_simp <;> with_reducible rfl
                simp only [Act.put, List.setIfInBounds_toArray, List.set_cons_zero, List.set_cons_succ]
                refine hTake (i := 13) (v := ?_) rfl (by kernel_rfl) (by kernel_rfl) (by kernel_rfl) (by rfl) ?_ hH ?_
                rotate_left
                · intro W hW; (try dsimp only at hW); go_simp <;> with_reducible rfl
                simp only [Act.put, List.setIfInBounds_toArray, List.set_cons_zero, List.set_cons_succ]
                refine hTake (i := 14) (v := ?_) rfl (by kernel_rfl) (by kernel_rfl) (by kernel_rfl) (by rfl) ?_ hH ?_
                rotate_left
                · intro W hW; (try dsimp only at hW); go_simp <;> with_reducible rfl
                simp only [Act.put, List.setIfInBounds_toArray, List.set_cons_zero, List.set_cons_succ]
                refine hTake (i := 15) (v := ?_) rfl (by kernel_rfl) (by kernel_rfl) (by kernel_rfl) (by rfl) ?_ hH ?_
                rotate_left
                · intro W hW; (try dsimp only at hW); go_simp <;> with_reducible rfl
                simp only [Act.put, List.setIfInBounds_toArray, List.set_cons_zero, List.set_cons_succ]
                refine hTake (i := 16) (v := ?_) rfl (by kernel_rfl) (by kernel_rfl) (by kernel_rfl) (by rfl) ?_ hH ?_
                rotate_left
                · intro W hW; (try dsimp only at hW); go_simp <;> with_reducible rfl
                simp only [Act.put, List.setIfInBounds_toArray, List.set_cons_zero, List.set_cons_succ]
                refine hTake (i := 17) (v := ?_) rfl (by kernel_rfl) (by kernel_rfl) (by kernel_rfl) (by rfl) ?_ hH ?_
                rotate_left
                · intro W hW; (try dsimp only at hW); go_simp <;> with_reducible rfl
                simp only [Act.put, List.setIfInBounds_toArray, List.set_cons_zero, List.set_cons_succ]
                refine hTake (i := 18) (v := ?_) rfl (by kernel_rfl) (by kernel_rfl) (by kernel_rfl) (by rfl) ?_ hH ?_
                rotate_left
                · intro W hW; (try dsimp only at hW); go_simp <;> with_reducible rfl
                simp only [Act.put, List.setIfInBounds_toArray, List.set_cons_zero, List.set_cons_succ]
                refine hTake (i := 19) (v := ?_) rfl (by kernel_rfl) (by kernel_rfl) (by kernel_rfl) (by rfl) ?_ hH ?_
                rotate_left
                · intro W hW; (try dsimp only at hW); go_simp <;> with_reducible rfl
                simp only [Act.put, List.setIfInBounds_toArray, List.set_cons_zero, List.set_cons_succ]
                refine hTake (i := 20) (v := ?_) rfl (by kernel_rfl) (by kernel_rfl) (by kernel_rfl) (by rfl) ?_ hH ?_
                rotate_left
                · intro W hW; (try dsimp only at hW); go_simp <;> with_reducible rfl
                simp only [Act.put, List.setIfInBounds_toArray, List.set_cons_zero, List.set_cons_succ]
                refine hTake (i := 21) (v := ?_) rfl (by kernel_rfl) (by kernel_rfl) (by kernel_rfl) (by rfl) ?_ hH ?_
                rotate_left
                · intro W hW; (try dsimp only at hW); go_simp <;> with_reducible rfl
                simp only [Act.put, List.setIfInBounds_toArray, List.set_cons_zero, List.set_cons_succ]
                refine wpAnyH_ready (rs := [22]) (by kernel_rfl) (by simp) ?_
                refine AllReadyH.cons rfl (fun K hK => ?_) AllReadyH.nil
                go_simp
                refine (IF _).mono ?_
                rintro e w2 ⟨rfl, rfl⟩
                go_wp2_with fail
                refine hK.out _ _ ?_ (fun hH => ?_)
                · exact hH
                clear hK K
                refine hTake (i := 23) (v := ?_) rfl (by kernel_rfl) (by kernel_rfl) (by kernel_rfl) (by rfl) ?_ hH ?_
                rotate_left
                · intro W hW; (try dsimp only at hW); go_simp <;> with_reducible rfl
                simp only [Act.put, List.setIfInBounds_toArray, List.set_cons_zero, List.set_cons_succ]
                refine hTake (i := 24) (v := ?_) rfl (by kernel_rfl) (by kernel_rfl) (by kernel_rfl) (by rfl) ?_ hH ?_
                rotate_left
                · intro W hW; (try dsimp only at hW); go_simp <;> with_reducible rfl
                simp only [Act.put, List.setIfInBounds_toArray, List.set_cons_zero, List.set_cons_succ]
                refine wpAnyH_done (by kernel_rfl) ?_ _
                refine NoPanic.normal ?_
                have ownD := owns_below own ((Below.refl wy.heap.size wy).drew)
                have hm1 : m ≤ 1048576 := by omega
                clear own r0 r1 t1 t2 y0 y1 hY hXY
                go_wp2_with fail
                generalize wy.drew = Y at *
                refine wp_region_noPanic ?_
                refine wp_region_held_drew (S := fun W' => W'.cell? ⟨b, off + I * 3 + 1, none⟩ = some (.slice (some ⟨hb, ho, none⟩) nh ch) ∧ W'.cell? ⟨PX, 0, none⟩ = some (.int .i64 qt) ∧ W'.cell? ⟨PX, 1, none⟩ = some (.int .i64 qm) ∧ W'.cell? ⟨hb, ho + j * 2, none⟩ = some (.int .i64 rt) ∧ W'.cell? ⟨hb, ho + j * 2 + 1, none⟩ = some (.int .i64 rm) ∧ Below X.heap.size X W') (by kernel_rfl) (⟨hH.1, hH.2.1, hH.2.2.1, hH.2.2.2.1, hH.2.2.2.2.1, hH.2.2.2.2.2.drew⟩) (fun hH => ?_)
                refine hTake (i := 0) (v := ?_) rfl (by kernel_rfl) (by kernel_rfl) (by kernel_rfl) (by rfl) ?_ hH ?_
                rotate_left
                · intro W hW; (try dsimp only at hW); go_simp <;> with_reducible rfl
                simp only [Act.put, List.setIfInBounds_toArray, List.set_cons_zero, List.set_cons_succ]
                refine hTake (i := 1) (v := ?_) rfl (by kernel_rfl) (by kernel_rfl) (by kernel_rfl) (by rfl) ?_ hH ?_
                rotate_left
                · intro W hW; (try dsimp only at hW); go_simp <;> with_reducible rfl
                simp only [Act.put, List.setIfInBounds_toArray, List.set_cons_zero, List.set_cons_succ]
                refine hTake (i := 2) (v := ?_) rfl (by kernel_rfl) (by kernel_rfl) (by kernel_rfl) (by rfl) ?_ hH ?_
                rotate_left
                · intro W hW; (try dsimp only at hW); go_simp <;> with_reducible rfl
                simp only [Act.put, List.setIfInBounds_toArray, List.set_cons_zero, List.set_cons_succ]
                refine hTake (i := 3) (v := ?_) rfl (by kernel_rfl) (by kernel_rfl) (by kernel_rfl) (by rfl) ?_ hH ?_
                rotate_left
                · intro W hW; (try dsimp only at hW); go_simp <;> with_reducible rfl
                simp only [Act.put, List.setIfInBounds_toArray, List.set_cons_zero, List.set_cons_succ]
                refine hTake (i := 4) (v := ?_) rfl (by kernel_rfl) (by kernel_rfl) (by kernel_rfl) (by rfl) ?_ hH ?_
                rotate_left
                · intro W hW; (try dsimp only at hW); go_simp <;> with_reducible rfl
                simp only [Act.put, List.setIfInBounds_toArray, List.set_cons_zero, List.set_cons_succ]
                refine hTake (i := 5) (v := ?_) rfl (by kernel_rfl) (by kernel_rfl) (by kernel_rfl) (by rfl) ?_ hH ?_
                rotate_left
                · intro W hW; (try dsimp only at hW); go_simp <;> with_reducible rfl
                simp only [Act.put, List.setIfInBounds_toArray, List.set_cons_zero, List.set_cons_succ]
                refine hTake (i := 6) (v := ?_) rfl (by kernel_rfl) (by kernel_rfl) (by kernel_rfl) (by rfl) ?_ hH ?_
                rotate_left
                · intro W hW; (try dsimp only at hW); go_simp <;> with_reducible rfl
                simp only [Act.put, List.setIfInBounds_toArray, List.set_cons_zero, List.set_cons_succ]
                refine hTake (i := 7) (v := ?_) rfl (by kernel_rfl) (by kernel_rfl) (by kernel_rfl) (by rfl) ?_ hH ?_
                rotate_left
                · intro W hW; (try dsimp only at hW); go_simp <;> with_reducible rfl
                simp only [Act.put, List.setIfInBounds_toArray, List.set_cons_zero, List.set_cons_succ]
                refine hTake (i := 8) (v := ?_) rfl (by kernel_rfl) (by kernel_rfl) (by kernel_rfl) (by rfl) ?_ hH ?_
                rotate_left
                · intro W hW; (try dsimp only at hW); go_simp <;> with_reducible rfl
                simp only [Act.put, List.setIfInBounds_toArray, List.set_cons_zero, List.set_cons_succ]
                refine hTake (i := 9) (v := ?_) rfl (by kernel_rfl) (by kernel_rfl) (by kernel_rfl) (by rfl) ?_ hH ?_
                rotate_left
                · intro W hW; (try dsimp only at hW); go_simp <;> with_reducible rfl
                simp only [Act.put, List.setIfInBounds_toArray, List.set_cons_zero, List.set_cons_succ]
                refine hTake (i := 10) (v := ?_) rfl (by kernel_rfl) (by kernel_rfl) (by kernel_rfl) (by rfl) ?_ hH ?_
                rotate_left
                · intro W hW; (try dsimp only at hW); go_simp <;> with_reducible rfl
                simp only [Act.put, List.setIfInBounds_toArray, List.set_cons_zero, List.set_cons_succ]
                refine hTake (i := 11) (v := ?_) rfl (by kernel_rfl) (by kernel_rfl) (by kernel_rfl) (by rfl) ?_ hH ?_
                rotate_left
                · intro W hW; (try dsimp only at hW); go_simp <;> with_reducible rfl
                simp only [Act.put, List.setIfInBounds_toArray, List.set_cons_zero, List.set_cons_succ]
                refine wpAnyH_ready (rs := [12]) (by kernel_rfl) (by simp) ?_
                refine AllReadyH.cons rfl (fun K hK => ?_) AllReadyH.nil
                have ownE := owns_below ownD ((Below.refl Y.heap.size Y).drew)
                have hB9 : W0 ≤ Y.drew.heap.size := by have := (owns_lt ownE g rfl); omega
                go_simp
                refine (l7Put_any W0 g m c _ qt rt _ ownE hm1 hB9).mono ?_
                rintro e w9 ⟨g9, m9, c9, rfl, own9, hm9, b9⟩
                go_wp2_with fail
                refine hK.out _ _ ?_ (fun hH => ?_)
                · exact ⟨keep_cell b9 hH.1, keep_cell b9 hH.2.1, keep_cell b9 hH.2.2.1, keep_cell b9 hH.2.2.2.1, keep_cell b9 hH.2.2.2.2.1, hH.2.2.2.2.2.trans (b9.mono hH.2.2.2.2.2.size)⟩
                clear hK K
                refine hTake (i := 13) (v := ?_) rfl (by kernel_rfl) (by kernel_rfl) (by kernel_rfl) (by rfl) ?_ hH ?_
                rotate_left
                · intro W hW; (try dsimp only at hW); go_simp <;> with_reducible rfl
                simp only [Act.put, List.setIfInBounds_toArray, List.set_cons_zero, List.set_cons_succ]
                refine wpAnyH_done (by kernel_rfl) ?_ _
                refine NoPanic.normal ?_
                go_wp2
                go_roundw
                case rel => exact ⟨j + 1, m9, g9, c9, by omega, by go_num, rfl, by rw [HWY.out, ← List.append_assoc, Ch.sortE_snoc]; exact own9, by omega, hH.2.2.2.2.2⟩
                case measure => simp [intOf]; omega
              · replace HWN := hid (HWN.out (by rw [e1]; rfl))
                clear HWY
                go_wp2_with fail
                refine wp_region_noPanic ?_
                refine wp_region_held_drew (S := fun W' => W'.cell? ⟨b, off + I * 3 + 1, none⟩ = some (.slice (some ⟨hb, ho, none⟩) nh ch) ∧ W'.cell? ⟨PX, 0, none⟩ = some (.int .i64 qt) ∧ W'.cell? ⟨PX, 1, none⟩ = some (.int .i64 qm) ∧ W'.cell? ⟨hb, ho + j * 2, none⟩ = some (.int .i64 rt) ∧ W'.cell? ⟨hb, ho + j * 2 + 1, none⟩ = some (.int .i64 rm) ∧ Below X.heap.size X W') (by kernel_rfl) (⟨t1, y0, y1, r0, r1, hY.drew⟩) (fun hH => ?_)
                refine hTake (i := 0) (v := ?_) rfl (by kernel_rfl) (by kernel_rfl) (by kernel_rfl) (by rfl) ?_ hH ?_
                rotate_left
                · intro W hW; (try dsimp only at hW); go_simp <;> with_reducible rfl
                simp only [Act.put, List.setIfInBounds_toArray, List.set_cons_zero, List.set_cons_succ]
                refine hTake (i := 1) (v := ?_) rfl (by kernel_rfl) (by kernel_rfl) (by kernel_rfl) (by rfl) ?_ hH ?_
                rotate_left
                · intro W hW; (try dsimp only at hW); go_simp <;> with_reducible rfl
                simp only [Act.put, List.setIfInBounds_toArray, List.set_cons_zero, List.set_cons_succ]
                refine hTake (i := 2) (v := ?_) rfl (by kernel_rfl) (by kernel_rfl) (by kernel_rfl) (by rfl) ?_ hH ?_
                rotate_left
                · intro W hW; (try dsimp only at hW); go_simp <;> with_reducible rfl
                simp only [Act.put, List.setIfInBounds_toArray, List.set_cons_zero, List.set_cons_succ]
                refine hTake (i := 3) (v := ?_) rfl (by kernel_rfl) (by kernel_rfl) (by kernel_rfl) (by rfl) ?_ hH ?_
                rotate_left
                · intro W hW; (try dsimp only at hW); go_simp <;> with_reducible rfl
                simp only [Act.put, List.setIfInBounds_toArray, List.set_cons_zero, List.set_cons_succ]
                refine hTake (i := 4) (v := ?_) rfl (by kernel_rfl) (by kernel_rfl) (by kernel_rfl) (by rfl) ?_ hH ?_
                rotate_left
                · intro W hW; (try dsimp only at hW); go_simp <;> with_reducible rfl
                simp only [Act.put, List.setIfInBounds_toArray, List.set_cons_zero, List.set_cons_succ]
                refine hTake (i := 5) (v := ?_) rfl (by kernel_rfl) (by kernel_rfl) (by kernel_rfl) (by rfl) ?_ hH ?_
                rotate_left
                · intro W hW; (try dsimp only at hW); go_simp <;> with_reducible rfl
                simp only [Act.put, List.setIfInBounds_toArray, List.set_cons_zero, List.set_cons_succ]
                refine hTake (i := 6) (v := ?_) rfl (by kernel_rfl) (by kernel_rfl) (by kernel_rfl) (by rfl) ?_ hH ?_
                rotate_left
                · intro W hW; (try dsimp only at hW); go_simp <;> with_reducible rfl
                simp only [Act.put, List.setIfInBounds_toArray, List.set_cons_zero, List.set_cons_succ]
                refine hTake (i := 7) (v := ?_) rfl (by kernel_rfl) (by kernel_rfl) (by kernel_rfl) (by rfl) ?_ hH ?_
                rotate_left
                · intro W hW; (try dsimp only at hW); go_simp <;> with_reducible rfl
                simp only [Act.put, List.setIfInBounds_toArray, List.set_cons_zero, List.set_cons_succ]
                refine hTake (i := 8) (v := ?_) rfl (by kernel_rfl) (by kernel_rfl) (by kernel_rfl) (by rfl) ?_ hH ?_
                rotate_left
                · intro W hW; (try dsimp only at hW); go_simp <;> with_reducible rfl
                simp only [Act.put, List.setIfInBounds_toArray, List.set_cons_zero, List.set_cons_succ]
                refine hTake (i := 9) (v := ?_) rfl (by kernel_rfl) (by kernel_rfl) (by kernel_rfl) (by rfl) ?_ hH ?_
                rotate_left
                · intro W hW; (try dsimp only at hW); go_simp <;> with_reducible rfl
                simp only [Act.put, List.setIfInBounds_toArray, List.set_cons_zero, List.set_cons_succ]
                refine hTake (i := 10) (v := ?_) rfl (by kernel_rfl) (by kernel_rfl) (by kernel_rfl) (by rfl) ?_ hH ?_
                rotate_left
                · intro W hW; (try dsimp only at hW); go_simp <;> with_reducible rfl
                simp only [Act.put, List.setIfInBounds_toArray, List.set_cons_zero, List.set_cons_succ]
                refine hTake (i := 11) (v := ?_) rfl (by kernel_rfl) (by kernel_rfl) (by kernel_rfl) (by rfl) ?_ hH ?_
                rotate_left
                · intro W hW; (try dsimp only at hW); go_simp <;> with_reducible rfl
                simp only [Act.put, List.setIfInBounds_toArray, List.set_cons_zero, List.set_cons_succ]
                refine hTake (i := 12) (v := ?_) rfl (by kernel_rfl) (by kernel_rfl) (by kernel_rfl) (by rfl) ?_ hH ?_
                rotate_left
                · intro W hW; (try dsimp only at hW); go_simp <;> with_reducible rfl
                simp only [Act.put, List.setIfInBounds_toArray, List.set_cons_zero, List.set_cons_succ]
                refine hTake (i := 13) (v := ?_) rfl (by kernel_rfl) (by kernel_rfl) (by kernel_rfl) (by rfl) ?_ hH ?_
                rotate_left
                · intro W hW; (try dsimp only at hW); go_simp <;> with_reducible rfl
                simp only [Act.put, List.setIfInBounds_toArray, List.set_cons_zero, List.set_cons_succ]
                refine hTake (i := 14) (v := ?_) rfl (by kernel_rfl) (by kernel_rfl) (by kernel_rfl) (by rfl) ?_ hH ?_
                rotate_left
                · intro W hW; (try dsimp only at hW); go_simp <;> with_reducible rfl
                simp only [Act.put, List.setIfInBounds_toArray, List.set_cons_zero, List.set_cons_succ]
                refine hTake (i := 15) (v := ?_) rfl (by kernel_rfl) (by kernel_rfl) (by kernel_rfl) (by rfl) ?_ hH ?_
                rotate_left
                · intro W hW; (try dsimp only at hW); go_simp <;> with_reducible rfl
                simp only [Act.put, List.setIfInBounds_toArray, List.set_cons_zero, List.set_cons_succ]
                refine hTake (i := 16) (v := ?_) rfl (by kernel_rfl) (by kernel_rfl) (by kernel_rfl) (by rfl) ?_ hH ?_
                rotate_left
                · intro W hW; (try dsimp only at hW); go_simp <;> with_reducible rfl
                simp only [Act.put, List.setIfInBounds_toArray, List.set_cons_zero, List.set_cons_succ]
                refine hTake (i := 17) (v := ?_) rfl (by kernel_rfl) (by kernel_rfl) (by kernel_rfl) (by rfl) ?_ hH ?_
                rotate_left
                · intro W hW; (try dsimp only at hW); go_simp <;> with_reducible rfl
                simp only [Act.put, List.setIfInBounds_toArray, List.set_cons_zero, List.set_cons_succ]
                refine hTake (i := 18) (v := ?_) rfl (by kernel_rfl) (by kernel_rfl) (by kernel_rfl) (by rfl) ?_ hH ?_
                rotate_left
                · intro W hW; (try dsimp only at hW); go_simp <;> with_reducible rfl
                simp only [Act.put, List.setIfInBounds_toArray, List.set_cons_zero, List.set_cons_succ]
                refine hTake (i := 19) (v := ?_) rfl (by kernel_rfl) (by kernel_rfl) (by kernel_rfl) (by rfl) ?_ hH ?_
                rotate_left
                · intro W hW; (try dsimp only at hW); go_simp <;> with_reducible rfl
                simp only [Act.put, List.setIfInBounds_toArray, List.set_cons_zero, List.set_cons_succ]
                refine hTake (i := 20) (v := ?_) rfl (by kernel_rfl) (by kernel_rfl) (by kernel_rfl) (by rfl) ?_ hH ?_
                rotate_left
                · intro W hW; (try dsimp only at hW); go_simp <;> with_reducible rfl
                simp only [Act.put, List.setIfInBounds_toArray, List.set_cons_zero, List.set_cons_succ]
                refine hTake (i := 21) (v := ?_) rfl (by kernel_rfl) (by kernel_rfl) (by kernel_rfl) (by rfl) ?_ hH ?_
                rotate_left
                · intro W hW; (try dsimp only at hW); go_simp <;> with_reducible rfl
                simp only [Act.put, List.setIfInBounds_toArray, List.set_cons_zero, List.set_cons_succ]
                refine wpAnyH_ready (rs := [22]) (by kernel_rfl) (by simp) ?_
                refine AllReadyH.cons rfl (fun K hK => ?_) AllReadyH.nil
                go_simp
                refine (IF _).mono ?_
                rintro e w2 ⟨rfl, rfl⟩
                go_wp2_with fail
                refine hK.out _ _ ?_ (fun hH => ?_)
                · exact hH
                clear hK K
                refine hTake (i := 23) (v := ?_) rfl (by kernel_rfl) (by kernel_rfl) (by kernel_rfl) (by rfl) ?_ hH ?_
                rotate_left
                · intro W hW; (try dsimp only at hW); go_simp <;> with_reducible rfl
                simp only [Act.put, List.setIfInBounds_toArray, List.set_cons_zero, List.set_cons_succ]
                refine hTake (i := 24) (v := ?_) rfl (by kernel_rfl) (by kernel_rfl) (by kernel_rfl) (by rfl) ?_ hH ?_
                rotate_left
                · intro W hW; (try dsimp only at hW); go_simp <;> with_reducible rfl
                simp only [Act.put, List.setIfInBounds_toArray, List.set_cons_zero, List.set_cons_succ]
                refine wpAnyH_done (by kernel_rfl) ?_ _
                refine NoPanic.normal ?_
                go_wp2
                go_roundw
                case rel => exact ⟨j + 1, m, g, c, by omega, by go_num, rfl, by rw [HWN.out]; exact owns_below own ((Below.refl _ _).drew), by omega, hH.2.2.2.2.2⟩
                case measure => simp [intOf]; omega
            · obtain rfl : j = nh := by omega
              have HTK : Hid (hs.take j = hs) := by have := HH.out; show _ = _; rw [this]; exact List.take_length
              rw [HTK.out] at own
              have ha0 : Hid (A0 ++ QE k ++ Ch.waitE ⟨qt, qm⟩ hs ++ Ch.aheadE ⟨qt, qm⟩ (qs.take 0) = A0 ++ QE k ++ Ch.waitE ⟨qt, qm⟩ hs) := by show _ = _; simp [Ch.aheadE]
              obtain ⟨A1, HA1⟩ : ∃ A1, Hid (A0 ++ QE k ++ Ch.waitE ⟨qt, qm⟩ hs = A1) := ⟨_, rfl⟩
              rw [HA1.out] at own ha0
              go_wp2
              go_loopw [3, 9] (fun q i wz => ∃ (d m g c : Nat), d ≤ k ∧ i = .int .i64 d ∧ q = .slice (some ⟨g, 0, none⟩) m c ∧ wz.ownsRow W0 46 2 (.slice (some ⟨g, 0, none⟩) m c) m (hcells (Ch.sortE (A1 ++ Ch.aheadE ⟨qt, qm⟩ (qs.take d)))) ∧ m ≤ 800 * I + 40 * k + 20 + d ∧ Below wy.heap.size wy wz) (fun _ i _ => k - (intOf i).toNat)
              case atStart => exact ⟨0, m, g, c, Nat.zero_le _, rfl, rfl, by rw [ha0.out]; exact own, by omega, Below.refl _ _⟩
              case round =>
                clear own hm ha0
                obtain ⟨d, m, g, c, hd, rfl, rfl, own, hm, hZ⟩ := hrel
                generalize wr = wz at *
                by_cases hld : d < k
                · have hdl : d < qs.length := by omega
                  have hdn : d < nq := by omega
                  have HAH := hid (Ch.aheadE_next (q := ⟨qt, qm⟩) hdl)
                  obtain ⟨db, dd, hde, r0, r1⟩ := ((h4.below hXY).below hZ).hold (show d < nq by omega)
                  simp only [Option.some.injEq, Addr.mk.injEq, and_true] at hde
                  obtain ⟨rfl, rfl⟩ := hde
                  have hhb := lt_of_cell r0
                  generalize qs.getD d Ch.Hold.zero = hh at *
                  obtain ⟨rt, rm⟩ := hh
                  simp only at r0 r1 HAH
                  have u2 := keep_cell hZ t2
                  have v0 := keep_cell hZ y0
                  have lu := lt_of_cell u2
                  have lv := lt_of_cell v0
                  have hm1 : m ≤ 1048576 := by omega
                  have ownD := owns_below own ((Below.refl wz.heap.size wz).drew)
                  clear own
                  go_wp2_with fail
                  refine wp_region_noPanic ?_
                  refine wp_region_held_drew (S := fun W' => W'.cell? ⟨b, off + I * 3 + 2, none⟩ = some (.slice (some ⟨qb, qo, none⟩) nq cq) ∧ W'.cell? ⟨PX, 0, none⟩ = some (.int .i64 qt) ∧ W'.cell? ⟨qb, qo + d * 2, none⟩ = some (.int .i64 rt) ∧ Below wy.heap.size wy W') (by kernel_rfl) (⟨u2, v0, r0, hZ.drew⟩) (fun hH => ?_)
                  refine hTake (i := 0) (v := ?_) rfl (by kernel_rfl) (by kernel_rfl) (by kernel_rfl) (by rfl) ?_ hH ?_
                  rotate_left
                  · intro W hW; (try dsimp only at hW); go_simp <;> with_reducible rfl
                  simp only [Act.put, List.setIfInBounds_toArray, List.set_cons_zero, List.set_cons_succ]
                  refine hTake (i := 1) (v := ?_) rfl (by kernel_rfl) (by kernel_rfl) (by kernel_rfl) (by rfl) ?_ hH ?_
                  rotate_left
                  · intro W hW; (try dsimp only at hW); go_simp <;> with_reducible rfl
                  simp only [Act.put, List.setIfInBounds_toArray, List.set_cons_zero, List.set_cons_succ]
                  refine hTake (i := 2) (v := ?_) rfl (by kernel_rfl) (by kernel_rfl) (by kernel_rfl) (by rfl) ?_ hH ?_
                  rotate_left
                  · intro W hW; (try dsimp only at hW); go_simp <;> with_reducible rfl
                  simp only [Act.put, List.setIfInBounds_toArray, List.set_cons_zero, List.set_cons_succ]
                  refine hTake (i := 3) (v := ?_) rfl (by kernel_rfl) (by kernel_rfl) (by kernel_rfl) (by rfl) ?_ hH ?_
                  rotate_left
                  · intro W hW; (try dsimp only at hW); go_simp <;> with_reducible rfl
                  simp only [Act.put, List.setIfInBounds_toArray, List.set_cons_zero, List.set_cons_succ]
                  refine hTake (i := 4) (v := ?_) rfl (by kernel_rfl) (by kernel_rfl) (by kernel_rfl) (by rfl) ?_ hH ?_
                  rotate_left
                  · intro W hW; (try dsimp only at hW); go_simp <;> with_reducible rfl
                  simp only [Act.put, List.setIfInBounds_toArray, List.set_cons_zero, List.set_cons_succ]
                  refine hTake (i := 5) (v := ?_) rfl (by kernel_rfl) (by kernel_rfl) (by kernel_rfl) (by rfl) ?_ hH ?_
                  rotate_left
                  · intro W hW; (try dsimp only at hW); go_simp <;> with_reducible rfl
                  simp only [Act.put, List.setIfInBounds_toArray, List.set_cons_zero, List.set_cons_succ]
                  refine hTake (i := 6) (v := ?_) rfl (by kernel_rfl) (by kernel_rfl) (by kernel_rfl) (by rfl) ?_ hH ?_
                  rotate_left
                  · intro W hW; (try dsimp only at hW); go_simp <;> with_reducible rfl
                  simp only [Act.put, List.setIfInBounds_toArray, List.set_cons_zero, List.set_cons_succ]
                  refine hTake (i := 7) (v := ?_) rfl (by kernel_rfl) (by kernel_rfl) (by kernel_rfl) (by rfl) ?_ hH ?_
                  rotate_left
                  · intro W hW; (try dsimp only at hW); go_simp <;> with_reducible rfl
                  simp only [Act.put, List.setIfInBounds_toArray, List.set_cons_zero, List.set_cons_succ]
                  refine hTake (i := 8) (v := ?_) rfl (by kernel_rfl) (by kernel_rfl) (by kernel_rfl) (by rfl) ?_ hH ?_
                  rotate_left
                  · intro W hW; (try dsimp only at hW); go_simp <;> with_reducible rfl
                  simp only [Act.put, List.setIfInBounds_toArray, List.set_cons_zero, List.set_cons_succ]
                  refine hTake (i := 9) (v := ?_) rfl (by kernel_rfl) (by kernel_rfl) (by kernel_rfl) (by rfl) ?_ hH ?_
                  rotate_left
                  · intro W hW; (try dsimp only at hW); go_simp <;> with_reducible rfl
                  simp only [Act.put, List.setIfInBounds_toArray, List.set_cons_zero, List.set_cons_succ]
                  refine hTake (i := 10) (v := ?_) rfl (by kernel_rfl) (by kernel_rfl) (by kernel_rfl) (by rfl) ?_ hH ?_
                  rotate_left
                  · intro W hW; (try dsimp only at hW); go_simp <;> with_reducible rfl
                  simp only [Act.put, List.setIfInBounds_toArray, List.set_cons_zero, List.set_cons_succ]
                  refine hTake (i := 11) (v := ?_) rfl (by kernel_rfl) (by kernel_rfl) (by kernel_rfl) (by rfl) ?_ hH ?_
                  rotate_left
                  · intro W hW; (try dsimp only at hW); go_simp <;> with_reducible rfl
                  simp only [Act.put, List.setIfInBounds_toArray, List.set_cons_zero, List.set_cons_succ]
                  refine wpAnyH_ready (rs := [12]) (by kernel_rfl) (by simp) ?_
                  refine AllReadyH.cons rfl (fun K hK => ?_) AllReadyH.nil
                  have hB9 : W0 ≤ wz.drew.heap.size := by have := (owns_lt ownD g rfl); omega
                  go_simp
                  refine (l7Put_any W0 g m c _ qt rt _ ownD hm1 hB9).mono ?_
                  rintro e w9 ⟨g9, m9, c9, rfl, own9, hm9, b9⟩
                  go_wp2_with fail
                  refine hK.out _ _ ?_ (fun hH => ?_)
                  · exact ⟨keep_cell b9 hH.1, keep_cell b9 hH.2.1, keep_cell b9 hH.2.2.1, hH.2.2.2.trans (b9.mono hH.2.2.2.size)⟩
                  clear hK K
                  refine hTake (i := 13) (v := ?_) rfl (by kernel_rfl) (by kernel_rfl) (by kernel_rfl) (by rfl) ?_ hH ?_
                  rotate_left
                  · intro W hW; (try dsimp only at hW); go_simp <;> with_reducible rfl
                  simp only [Act.put, List.setIfInBounds_toArray, List.set_cons_zero, List.set_cons_succ]
                  refine wpAnyH_done (by kernel_rfl) ?_ _
                  refine NoPanic.normal ?_
                  go_wp2
                  go_roundw
                  case rel => exact ⟨d + 1, m9, g9, c9, by omega, by go_num, rfl, by rw [HAH.out, ← List.append_assoc, Ch.sortE_snoc]; exact own9, by omega, hH.2.2.2⟩
                  case measure => simp [intOf]; omega
                · obtain rfl : d = k := by omega
                  go_wp2
                  go_roundw
                  case rel => exact ⟨d + 1, m, g, c, by omega, by go_num, rfl, by rw [HQK.out]; rw [← HA1.out] at own; simpa only [List.append_assoc] using own, by omega, hXY.trans (hZ.mono hXY.size)⟩
                  case measure => simp [intOf]; omega
        · obtain rfl : k = nq := by omega
          go_wp2
          go_roundw
          case rel => exact ⟨I + 1, m, g, c, by omega, by go_num, rfl, by rw [HAN.out, ← HQ.out]; exact own, by omega, hB.trans (hX.mono hB.size)⟩
          case measure => simp [intOf]; omega
    · obtain rfl : I = n := by omega
      have HTK : Hid (ls.take I = ls) := by have := HL.out; show _ = _; rw [this]; exact List.take_length
      rw [HTK.out] at own
      go_wp2
      go_ret
      exact ⟨g, m, c, rfl, by omega, hW0 ▸ own, hB⟩
end Go.Proofs.Ytjagobcogkdfhaa

