
/- The library's Delete at rows and at leaves: one element. -/
import Derived.Test.YtofhkncdjjlllaaCopyW
import Derived.Deep.RegionLaw
import Derived.Lib.SliceRun
import Derived.Laws.IdiomCopy
namespace Go.Proofs.Ytofhkncdjjlllaa
open Go.RowKit

theorem owns_setCells {base : Nat} {e : TypeId} {size g n cap : Nat} (news : List Value) : ∀ (j : Nat) (xs : List Value) (w : World), w.ownsRow base e size (.slice (some ⟨g, 0, none⟩) n cap) n xs → j + news.length ≤ xs.length →
    (w.setCells g j news).ownsRow base e size (.slice (some ⟨g, 0, none⟩) n cap) n (xs.take j ++ news ++ xs.drop (j + news.length)) ∧ w.grownBy (w.setCells g j news) (some g) := by
  induction news with
  | nil => intro j xs w h _; exact ⟨by simpa [World.setCells] using h, ⟨rfl, rfl, rfl, Nat.le_refl _, fun _ _ _ => rfl⟩⟩
  | cons u news ih =>
    intro j xs w h hj
    simp only [List.length_cons] at hj
    have hs := h.stored j u
    have ⟨h2, h3⟩ := ih (j + 1) _ _ hs.1 (by simp; omega)
    refine ⟨?_, gr_trans hs.2 h3⟩
    have e : (xs.set j u).take (j + 1) ++ news ++ (xs.set j u).drop (j + 1 + news.length) = xs.take j ++ u :: news ++ xs.drop (j + (news.length + 1)) := by
      rw [List.drop_set, if_pos (by omega), Ch.take_snoc _ u j (by simp; omega), List.take_set]
      rw [List.set_eq_of_length_le (by simp; omega)]
      have : (xs.set j u).getD j u = u := by simp [List.getD, show j < xs.length by omega]
      rw [this, show j + 1 + news.length = j + (news.length + 1) by omega]
      simp
    simp only [World.setCells, List.length_cons]
    rw [← e]
    exact h2
theorem owns_shrink {w : World} {base : Nat} {e : TypeId} {size g n cap m : Nat} {xs : List Value} (h : w.ownsRow base e size (.slice (some ⟨g, 0, none⟩) n cap) n xs) (hm : m ≤ n) : w.ownsRow base e size (.slice (some ⟨g, 0, none⟩) m cap) m (xs.take (m * size)) := by
  rcases h.2 with ⟨hv, _⟩ | ⟨g', cp, cur, hv, hb, hh, h1, h2, h3, h4⟩
  · simp at hv
  · simp only [Value.slice.injEq, Option.some.injEq, Addr.mk.injEq, and_true, true_and] at hv
    obtain ⟨rfl, rfl⟩ := hv
    have hle : m * size ≤ n * size := Nat.mul_le_mul_right _ hm
    refine ⟨by rw [List.length_take, h.1]; omega, .inr ⟨g, cap, cur, rfl, hb, hh, by omega, h2, h3, ?_⟩⟩
    rw [← h4, List.take_take, Nat.min_eq_left hle]

theorem clearR (w : World) (ty b o c : Nat) (hc : ∀ j, j < 3 → (w.cell? ⟨b, o + j, none⟩).isSome = true) (hf : ∀ j, j < 3 → w.frozen? ⟨b, o + j, none⟩ = false) :
    (Builtin.clear_ #[48] ty #[.slice (some ⟨b, o, none⟩) 1 c]).run Try.prog w = .ok (.tuple #[]) (w.setCells b o [.int .i64 0, .int .i64 0, .bool false]) := by
  have hv : ∀ W, (zeroValue 42).run Try.prog W = .ok (.agg #[.int .i64 0, .int .i64 0, .bool false]) W := fun _ => by kernel_rfl
  have hzc : (Builtin.zeroCells (Value.cells (.agg #[.int .i64 0, .int .i64 0, .bool false])) 1).toList = [.int .i64 0, .int .i64 0, .bool false] := by kernel_rfl
  have hst := run_storeCells_cells (P := Try.prog) b o [.int .i64 0, .int .i64 0, .bool false] 0 w (by simpa using hc) (by simpa using hf) (by decide)
  simp only [Nat.add_zero] at hst
  simp [Builtin.clear_, run_underlying Try.underlying48, hv, hzc, hst]

set_option maxHeartbeats 4000000 in
theorem deleteR_any (B g cap i r : Nat) (xs ys zs : List Value) (w : World) (hown : w.ownsRow B 42 3 (.slice (some ⟨g, 0, none⟩) (i + 1 + r) cap) (i + 1 + r) (xs ++ ys ++ zs)) (hx : xs.length = i * 3) (hy : ys.length = 3) (h1 : ∀ u ∈ zs, u.oneCell' = true) (hn : i + 1 + r ≤ 1048576) :
    Calls Try.prog 72 #[.slice (some ⟨g, 0, none⟩) (i + 1 + r) cap, .int .i64 i, .int .i64 ((i : Int) + 1)] w fun e w' => e = .returned (.slice (some ⟨g, 0, none⟩) (i + r) cap) ∧ w'.ownsRow B 42 3 (.slice (some ⟨g, 0, none⟩) (i + r) cap) (i + r) (xs ++ zs) ∧ w.grownBy w' (some g) := by
  have hz : zs.length = r * 3 := by have := hown.1; simp only [List.length_append] at this; omega
  have hcap : i + 1 + r ≤ cap ∧ cap ≤ 9223372036854775807 := by
    rcases hown.2 with ⟨hv, _⟩ | ⟨g', cp, cur, hv, hb, hh, h1, h2, _⟩
    · simp at hv
    · simp only [Value.slice.injEq] at hv
      obtain ⟨_, _, rfl⟩ := hv
      exact ⟨h1, by unfold maxLen at h2; exact h2⟩
  obtain ⟨hc1, hc2⟩ := hcap
  obtain ⟨i0, hi0, _, hsz, _⟩ := info_parts Try.info42
  have hne : ((i : Int) == (i : Int) + 1) = false := by simp; omega
  have hic : i ≤ cap := by omega
  have hjc : i + 1 ≤ cap := by omega
  have hrt : ((i + 1 + r : Nat) : Int) = (i : Int) + 1 + (r : Int) := by omega
  have hb5 : (0 : Int) ≤ (i : Int) + 1 ∧ (i : Int) + 1 ≤ (i : Int) + 1 + (r : Int) := by omega
  obtain ⟨A, hA, hsrc⟩ : ∃ A : Addr, (if cap = i + 1 then some (⟨g, 0, none⟩ : Addr) else some ⟨g, (i + 1) * 3, none⟩) = some A ∧ Hid (∀ t u, zs[t]? = some u → w.drew.cell? (A.add t) = some u) := by
    by_cases h : cap = i + 1
    · refine ⟨⟨g, 0, none⟩, by simp [h], fun t u hu => ?_⟩
      have h0 : zs.length = 0 := by rw [hz]; omega
      rw [List.length_eq_zero_iff.1 h0] at hu
      simp at hu
    · refine ⟨⟨g, (i + 1) * 3, none⟩, by simp [h], fun t u hu => ?_⟩
      have ht : t < zs.length := (List.getElem?_eq_some_iff.1 hu).1
      rw [Addr.add_lit]
      show w.cell? _ = _
      rw [hown.cellAt _ (by omega), List.getElem?_append_right (by simp; omega), ← hu]
      rw [show (i + 1) * 3 + t - (xs ++ ys).length = t by simp; omega]
  have hsp : Hid (∀ t, t < zs.length → (w.drew.cell? ⟨g, 0 + i * 3 + t, none⟩).isSome = true ∧ w.drew.frozen? ⟨g, 0 + i * 3 + t, none⟩ = false) := by
    intro t ht
    have hj : 0 + i * 3 + t < (i + 1 + r) * 3 := by omega
    obtain ⟨u, hu⟩ := owns_some hown hj
    exact ⟨by show (w.cell? _).isSome = true; rw [hu]; rfl, hown.frozenAt _⟩
  obtain ⟨W1, hW1⟩ : ∃ W1, W1 = w.drew.setCells g (0 + i * 3) zs := ⟨_, rfl⟩
  have hW : Hid (W1 = w.drew.setCells g (0 + i * 3) zs) := hW1
  have own0 : w.drew.ownsRow B 42 3 (.slice (some ⟨g, 0, none⟩) (i + 1 + r) cap) (i + 1 + r) (xs ++ ys ++ zs) := hown
  have ⟨own1, gr1⟩ := owns_setCells zs (0 + i * 3) _ _ own0 (by simp; omega)
  rw [← hW1] at own1 gr1
  clear hW1 own0
  have gr1' : w.grownBy W1 (some g) := ⟨gr1.os, gr1.tape, gr1.output, gr1.size, gr1.block⟩
  have hcl : ∀ ty c, (Builtin.clear_ #[48] ty #[.slice (some ⟨g, (i + r) * 3, none⟩) 1 c]).run Try.prog W1 = .ok (.tuple #[]) (W1.setCells g ((i + r) * 3) [.int .i64 0, .int .i64 0, .bool false]) := by
    intro ty c
    refine clearR W1 ty g ((i + r) * 3) c (fun j hj => ?_) (fun j hj => own1.frozenAt _)
    obtain ⟨u, hu⟩ := owns_some own1 (j := (i + r) * 3 + j) (by omega)
    rw [hu]; rfl
  have hd1 : i + 1 + r - (i + r) = 1 := by omega
  have hcr : ¬ cap = i + r := by omega
  have hir : ((i + r : Nat) : Int) = (i : Int) + (r : Int) := by omega
  go_enter Try.func72, Try.ntmps72
  go_wp2_with fail
  go_region_law (refine step_append_room rfl (.tmp 22) (.tmp 25) 48 rfl 42 i0 3 Try.underlying48 hi0 hsz g 0 i cap (by simp [Act.eval, Act.put]) A r (cap - (i + 1)) zs (by simp [Act.eval, Act.put]) (by omega) hsrc.out h1 (by omega) hsp.out ?_; rw [← hW.out])
  go_wp2
  go_ret
  have ⟨own2, gr2⟩ := owns_setCells [.int .i64 0, .int .i64 0, .bool false] ((i + r) * 3) _ _ own1 (by simp; omega)
  refine ⟨rfl, ?_, gr_trans gr1' gr2⟩
  have own3 := owns_shrink own2 (m := i + r) (by omega)
  have e1 : (xs ++ ys ++ zs).take (0 + i * 3) = xs := by rw [List.append_assoc, List.take_append_of_le_length (by omega), List.take_of_length_le (by omega)]
  rw [e1] at own3
  generalize (xs ++ ys ++ zs).drop (0 + i * 3 + zs.length) = T at own3
  have e2 : (xs ++ zs ++ T).take ((i + r) * 3) = xs ++ zs := by rw [List.take_append_of_le_length (by simp; omega), List.take_of_length_le (by simp; omega)]
  rw [e2, List.append_assoc, List.take_append_of_le_length (by simp; omega), List.take_of_length_le (by simp; omega)] at own3
  exact own3

theorem clearL (w : World) (ty b o c : Nat) (hc : ∀ j, j < 1 → (w.cell? ⟨b, o + j, none⟩).isSome = true) (hf : ∀ j, j < 1 → w.frozen? ⟨b, o + j, none⟩ = false) :
    (Builtin.clear_ #[40] ty #[.slice (some ⟨b, o, none⟩) 1 c]).run Try.prog w = .ok (.tuple #[]) (w.setCells b o [.slice none 0 0]) := by
  have hv : ∀ W, (zeroValue 59).run Try.prog W = .ok (.agg #[.slice none 0 0]) W := fun _ => by kernel_rfl
  have hzc : (Builtin.zeroCells (Value.cells (.agg #[.slice none 0 0])) 1).toList = [.slice none 0 0] := by kernel_rfl
  have hst := run_storeCells_cells (P := Try.prog) b o [.slice none 0 0] 0 w (by simpa using hc) (by simpa using hf) (by decide)
  simp only [Nat.add_zero] at hst
  simp [Builtin.clear_, run_underlying Try.underlying40, hv, hzc, hst]

set_option maxHeartbeats 4000000 in
theorem deleteL_any (B g cap i r : Nat) (xs ys zs : List Value) (w : World) (hown : w.ownsRow B 59 1 (.slice (some ⟨g, 0, none⟩) (i + 1 + r) cap) (i + 1 + r) (xs ++ ys ++ zs)) (hx : xs.length = i * 1) (hy : ys.length = 1) (h1 : ∀ u ∈ zs, u.oneCell' = true) (_hn : i + 1 + r ≤ 1048576) :
    Calls Try.prog 73 #[.slice (some ⟨g, 0, none⟩) (i + 1 + r) cap, .int .i64 i, .int .i64 ((i : Int) + 1)] w fun e w' => e = .returned (.slice (some ⟨g, 0, none⟩) (i + r) cap) ∧ w'.ownsRow B 59 1 (.slice (some ⟨g, 0, none⟩) (i + r) cap) (i + r) (xs ++ zs) ∧ w.grownBy w' (some g) := by
  have hz : zs.length = r * 1 := by have := hown.1; simp only [List.length_append] at this; omega
  have hcap : i + 1 + r ≤ cap ∧ cap ≤ 9223372036854775807 := by
    rcases hown.2 with ⟨hv, _⟩ | ⟨g', cp, cur, hv, hb, hh, h1, h2, _⟩
    · simp at hv
    · simp only [Value.slice.injEq] at hv
      obtain ⟨_, _, rfl⟩ := hv
      exact ⟨h1, by unfold maxLen at h2; exact h2⟩
  obtain ⟨hc1, hc2⟩ := hcap
  obtain ⟨i0, hi0, _, hsz, _⟩ := info_parts Try.info59
  have hne : ((i : Int) == (i : Int) + 1) = false := by simp; omega
  have hic : i ≤ cap := by omega
  have hjc : i + 1 ≤ cap := by omega
  have hrt : ((i + 1 + r : Nat) : Int) = (i : Int) + 1 + (r : Int) := by omega
  have hb5 : (0 : Int) ≤ (i : Int) + 1 ∧ (i : Int) + 1 ≤ (i : Int) + 1 + (r : Int) := by omega
  obtain ⟨A, hA, hsrc⟩ : ∃ A : Addr, (if cap = i + 1 then some (⟨g, 0, none⟩ : Addr) else some ⟨g, i + 1, none⟩) = some A ∧ Hid (∀ t u, zs[t]? = some u → w.drew.cell? (A.add t) = some u) := by
    by_cases h : cap = i + 1
    · refine ⟨⟨g, 0, none⟩, by simp [h], fun t u hu => ?_⟩
      have h0 : zs.length = 0 := by rw [hz]; omega
      rw [List.length_eq_zero_iff.1 h0] at hu
      simp at hu
    · refine ⟨⟨g, i + 1, none⟩, by simp [h], fun t u hu => ?_⟩
      have ht : t < zs.length := (List.getElem?_eq_some_iff.1 hu).1
      rw [Addr.add_lit]
      show w.cell? _ = _
      rw [hown.cellAt _ (by omega), List.getElem?_append_right (by simp; omega), ← hu]
      rw [show i + 1 + t - (xs ++ ys).length = t by simp; omega]
  have hsp : Hid (∀ t, t < zs.length → (w.drew.cell? ⟨g, 0 + i * 1 + t, none⟩).isSome = true ∧ w.drew.frozen? ⟨g, 0 + i * 1 + t, none⟩ = false) := by
    intro t ht
    have hj : 0 + i * 1 + t < (i + 1 + r) * 1 := by omega
    obtain ⟨u, hu⟩ := owns_some hown hj
    exact ⟨by show (w.cell? _).isSome = true; rw [hu]; rfl, hown.frozenAt _⟩
  obtain ⟨W1, hW1⟩ : ∃ W1, W1 = w.drew.setCells g (0 + i * 1) zs := ⟨_, rfl⟩
  have hW : Hid (W1 = w.drew.setCells g (0 + i * 1) zs) := hW1
  have own0 : w.drew.ownsRow B 59 1 (.slice (some ⟨g, 0, none⟩) (i + 1 + r) cap) (i + 1 + r) (xs ++ ys ++ zs) := hown
  have ⟨own1, gr1⟩ := owns_setCells zs (0 + i * 1) _ _ own0 (by simp; omega)
  rw [← hW1] at own1 gr1
  clear hW1 own0
  have gr1' : w.grownBy W1 (some g) := ⟨gr1.os, gr1.tape, gr1.output, gr1.size, gr1.block⟩
  have hcl : ∀ ty c, (Builtin.clear_ #[40] ty #[.slice (some ⟨g, i + r, none⟩) 1 c]).run Try.prog W1 = .ok (.tuple #[]) (W1.setCells g (i + r) [.slice none 0 0]) := by
    intro ty c
    refine clearL W1 ty g (i + r) c (fun j hj => ?_) (fun j hj => own1.frozenAt _)
    obtain ⟨u, hu⟩ := owns_some own1 (j := i + r + j) (by omega)
    rw [hu]; rfl
  have hd1 : i + 1 + r - (i + r) = 1 := by omega
  have hcr : ¬ cap = i + r := by omega
  have hir : ((i + r : Nat) : Int) = (i : Int) + (r : Int) := by omega
  go_enter Try.func73, Try.ntmps73
  go_wp2_with fail
  go_region_law (refine step_append_room rfl (.tmp 22) (.tmp 25) 40 rfl 59 i0 1 Try.underlying40 hi0 hsz g 0 i cap (by simp [Act.eval, Act.put]) A r (cap - (i + 1)) zs (by simp [Act.eval, Act.put]) (by omega) hsrc.out h1 (by omega) hsp.out ?_; rw [← hW.out])
  go_wp2
  go_ret
  have ⟨own2, gr2⟩ := owns_setCells [.slice none 0 0] (i + r) _ _ own1 (by simp; omega)
  refine ⟨rfl, ?_, gr_trans gr1' gr2⟩
  have own3 := owns_shrink own2 (m := i + r) (by omega)
  rw [Nat.mul_one] at own3
  have e1 : (xs ++ ys ++ zs).take (0 + i * 1) = xs := by rw [List.append_assoc, List.take_append_of_le_length (by omega), List.take_of_length_le (by omega)]
  rw [e1] at own3
  generalize (xs ++ ys ++ zs).drop (0 + i * 1 + zs.length) = T at own3
  have e2 : (xs ++ zs ++ T).take (i + r) = xs ++ zs := by rw [List.take_append_of_le_length (by simp; omega), List.take_of_length_le (by simp; omega)]
  rw [e2, List.append_assoc, List.take_append_of_le_length (by simp; omega), List.take_of_length_le (by simp; omega)] at own3
  exact own3

end Go.Proofs.Ytofhkncdjjlllaa
