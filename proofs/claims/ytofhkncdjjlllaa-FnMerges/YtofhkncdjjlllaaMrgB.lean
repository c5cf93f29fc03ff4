
/- Two leaves' rows in one: the program's. -/
import Derived.Test.YtofhkncdjjlllaaMrgA
namespace Go.Proofs.Ytofhkncdjjlllaa
open Go.RowKit

set_option maxHeartbeats 2000000 in
theorem pairRows_any (a : Option Addr) (n cap k : Nat) (ls : List (List Ch.Row)) (w : World) (h : LvAt w a n ls) (hs : Ch.lvSize ls ≤ 1048576) (hg : ∀ k, k < n → (ls.getD k []).length ≠ 0) (hk : k + 1 < n) :
    Calls Try.prog 82 #[.slice a n cap, .int .i64 k] w fun e w' => ∃ a' m c', e = .returned (.slice a' m c') ∧ m ≤ 2097152 ∧ w'.ownsRow w.heap.size 42 3 (.slice a' m c') m (rcells (Ch.pairAt ls k)) ∧ Below w.heap.size w w' := by
  have HL := h.len
  have hn : n ≤ 1048576 := by unfold Ch.lvSize at hs; have := HL.out; omega
  unfold Ch.pairAt
  obtain ⟨b, off, ai, ni, ci, rfl, hc, hr, hni⟩ := h.leaf (k := k) (by omega)
  obtain ⟨b', off', aj, nj, cj, hbe, hc', hr', hnj⟩ := h.leaf hk
  simp only [Option.some.injEq, Addr.mk.injEq, and_true] at hbe
  obtain ⟨rfl, rfl⟩ := hbe
  have HRl := hr.rlen
  have HRl' := hr'.rlen
  have hgi := hg k (by omega)
  have hgj := hg (k + 1) hk
  have HS := hid (Ch.lv_leaf hs k)
  have HS' := hid (Ch.lv_leaf hs (k + 1))
  generalize ls.getD k [] = li at *
  generalize ls.getD (k + 1) [] = lj at *
  obtain ⟨b1, o1, rfl, _⟩ := hr.row (k := 0) (by have := HRl.out; omega)
  obtain ⟨b2, o2, rfl, _⟩ := hr'.row (k := 0) (by have := HRl'.out; omega)
  have hsum : ni + nj ≤ 2097152 := by have := HRl.out; have := HRl'.out; have := HS.out; have := HS'.out; omega
  have hki : (k : Int) + 1 < (n : Int) := by omega
  have hkt : ((k : Int) + 1).toNat = k + 1 := by omega
  have hkn : k < n := by omega
  have hwk : IntKind.i64.wrap ((k : Int) + 1) = (k : Int) + 1 := IntWalk.i64_in _ ⟨by omega, by omega⟩
  have hk0 : (0 : Int) ≤ (k : Int) + 1 := by omega
  clear hgi hgj HS HS' HRl HRl' hg
  go_enter Try.func82, Try.ntmps82
  go_wp2
  have bD : Below w.heap.size w w.drew := (Below.refl _ _).drew
  refine wp_region_noPanic ?_
  refine wp_region_held_drew (S := fun W' => W'.cell? ⟨b, off + k, none⟩ = some (.slice (some ⟨b1, o1, none⟩) ni ci) ∧ W'.cell? ⟨b, off + (k + 1), none⟩ = some (.slice (some ⟨b2, o2, none⟩) nj cj) ∧ Below w.heap.size w W') (by kernel_rfl) (⟨hc, hc', (Below.refl _ _).drew⟩) (fun hH => ?_)
  refine hTake (i := 0) (v := ?_) rfl (by kernel_rfl) (by kernel_rfl) (by kernel_rfl) (by rfl) ?_ hH ?_
  rotate_left
  · intro W hW; (try dsimp only at hW); go_simp <;> with_reducible rfl
  simp only [Act.put, List.setIfInBounds_toArray, List.set_cons_zero, List.set_cons_succ]
  refine hTake (i := 1) (v := ?_) rfl (by kernel_rfl) (by kernel_rfl) (by kernel_rfl) (by rfl) ?_ hH ?_
  rotate_left
  · intro W hW; (try dsimp only at hW); go_simp <;> with_reducible rfl
  simp only [Act.put, List.setIfInBounds_toArray, List.set_cons_zero, List.set_cons_succ]
  refine hTake (i := 2) (v := ?_) rfl (by kernel_rfl) (by kernel_rfl) (by kernel_rfl) (by rfl) ?_ hH ?_
  rotate_left
  · intro W hW; (try dsimp only at hW); go_simp <;> with_reducible rfl
  simp only [Act.put, List.setIfInBounds_toArray, List.set_cons_zero, List.set_cons_succ]
  refine hTake (i := 3) (v := ?_) rfl (by kernel_rfl) (by kernel_rfl) (by kernel_rfl) (by rfl) ?_ hH ?_
  rotate_left
  · intro W hW; (try dsimp only at hW); go_simp <;> with_reducible rfl
  simp only [Act.put, List.setIfInBounds_toArray, List.set_cons_zero, List.set_cons_succ]
  refine hTake (i := 4) (v := ?_) rfl (by kernel_rfl) (by kernel_rfl) (by kernel_rfl) (by rfl) ?_ hH ?_
  rotate_left
  · intro W hW; (try dsimp only at hW); go_simp <;> with_reducible rfl
  simp only [Act.put, List.setIfInBounds_toArray, List.set_cons_zero, List.set_cons_succ]
  refine hTake (i := 5) (v := ?_) rfl (by kernel_rfl) (by kernel_rfl) (by kernel_rfl) (by rfl) ?_ hH ?_
  rotate_left
  · intro W hW; (try dsimp only at hW); go_simp <;> with_reducible rfl
  simp only [Act.put, List.setIfInBounds_toArray, List.set_cons_zero, List.set_cons_succ]
  refine hTake (i := 6) (v := ?_) rfl (by kernel_rfl) (by kernel_rfl) (by kernel_rfl) (by rfl) ?_ hH ?_
  rotate_left
  · intro W hW; (try dsimp only at hW); go_simp <;> with_reducible rfl
  simp only [Act.put, List.setIfInBounds_toArray, List.set_cons_zero, List.set_cons_succ]
  refine hTake (i := 7) (v := ?_) rfl (by kernel_rfl) (by kernel_rfl) (by kernel_rfl) (by rfl) ?_ hH ?_
  rotate_left
  · intro W hW; (try dsimp only at hW); go_simp <;> with_reducible rfl
  simp only [Act.put, List.setIfInBounds_toArray, List.set_cons_zero, List.set_cons_succ]
  refine hTake (i := 8) (v := ?_) rfl (by kernel_rfl) (by kernel_rfl) (by kernel_rfl) (by rfl) ?_ hH ?_
  rotate_left
  · intro W hW; (try dsimp only at hW); go_simp <;> with_reducible rfl
  simp only [Act.put, List.setIfInBounds_toArray, List.set_cons_zero, List.set_cons_succ]
  refine hTake (i := 9) (v := ?_) rfl (by kernel_rfl) (by kernel_rfl) (by kernel_rfl) (by rfl) ?_ hH ?_
  rotate_left
  · intro W hW; (try dsimp only at hW); go_simp <;> with_reducible rfl
  simp only [Act.put, List.setIfInBounds_toArray, List.set_cons_zero, List.set_cons_succ]
  refine hTake (i := 10) (v := ?_) rfl (by kernel_rfl) (by kernel_rfl) (by kernel_rfl) (by rfl) ?_ hH ?_
  rotate_left
  · intro W hW; (try dsimp only at hW); go_simp <;> with_reducible rfl
  simp only [Act.put, List.setIfInBounds_toArray, List.set_cons_zero, List.set_cons_succ]
  refine wpAnyH_ready (rs := [11]) (by kernel_rfl) (by simp) ?_
  refine AllReadyH.cons rfl (fun K hK => ?_) AllReadyH.nil
  go_simp
  have bL : ∀ o, Below w.drew.heap.size w.drew (w.drew.alloc o) := fun o => (Below.refl _ _).alloc (Nat.le_refl _) _
  refine hK.out _ _ ?_ (fun hH => ?_)
  · exact ⟨keep_cell (bL _) hH.1, keep_cell (bL _) hH.2.1, hH.2.2.trans ((bL _).mono hH.2.2.size)⟩
  clear hK K
  refine wpAnyH_ready (rs := [12]) (by kernel_rfl) (by simp) ?_
  refine AllReadyH.cons rfl (fun K hK => ?_) AllReadyH.nil
  go_simp
  refine (concat_anyR w.heap.size ⟨b1, o1, none⟩ ⟨b2, o2, none⟩ ni nj ci cj li lj _ (by simp [go_sem]) (by simp [go_sem]) ((hr.below bD).below (bL _)) ((hr'.below bD).below (bL _)) hsum).mono ?_
  rintro e w3 ⟨a3, c3, rfl, own3, b3⟩
  go_wp2_with fail
  refine hK.out _ _ ?_ (fun hH => ?_)
  · exact ⟨keep_cell b3 hH.1, keep_cell b3 hH.2.1, hH.2.2.trans (b3.mono hH.2.2.size)⟩
  clear hK K
  refine hTake (i := 13) (v := ?_) rfl (by kernel_rfl) (by kernel_rfl) (by kernel_rfl) (by rfl) ?_ hH ?_
  rotate_left
  · intro W hW; (try dsimp only at hW); go_simp <;> with_reducible rfl
  simp only [Act.put, List.setIfInBounds_toArray, List.set_cons_zero, List.set_cons_succ]
  refine wpAnyH_done (by kernel_rfl) ?_ _
  refine NoPanic.normal ?_
  clear hH
  go_wp2
  go_ret
  exact ⟨a3, ni + nj, c3, rfl, hsum, owns_base own3 (by simp), (bD.alloc bD.size _).trans (b3.mono (by simp))⟩
end Go.Proofs.Ytofhkncdjjlllaa
