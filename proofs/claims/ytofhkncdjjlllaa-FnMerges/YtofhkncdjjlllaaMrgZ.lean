/- Several texts in one: MrgC, MrgD. -/
import Derived.Test.YtofhkncdjjlllaaInsG
import Derived.BigQuiet
import Derived.Lib.AppendZeros


/- The library's Replace of two leaves by one or two. -/
namespace Go.Proofs.Ytofhkncdjjlllaa
open Go.RowKit

theorem clearLL (w : World) (ty b o c : Nat) (hc : ∀ j, j < 1 → (w.cell? ⟨b, o + j, none⟩).isSome = true) (hf : ∀ j, j < 1 → w.frozen? ⟨b, o + j, none⟩ = false) :
    (Builtin.clear_ #[113] ty #[.slice (some ⟨b, o, none⟩) 1 c]).run Try.prog w = .ok (.tuple #[]) (w.setCells b o [.slice none 0 0]) := by
  have hv : ∀ W, (zeroValue 59).run Try.prog W = .ok (.agg #[.slice none 0 0]) W := fun _ => by kernel_rfl
  have hzc : (Builtin.zeroCells (Value.cells (.agg #[.slice none 0 0])) 1).toList = [.slice none 0 0] := by kernel_rfl
  have hst := run_storeCells_cells (P := Try.prog) b o [.slice none 0 0] 0 w (by simpa using hc) (by simpa using hf) (by decide)
  simp only [Nat.add_zero] at hst
  simp [Builtin.clear_, run_underlying Try.underlying113, hv, hzc, hst]
theorem clearLL0 (w : World) (ty c : Nat) (ad : Addr) :
    (Builtin.clear_ #[113] ty #[.slice (some ad) 0 c]).run Try.prog w = .ok (.tuple #[]) w := by
  simp [Builtin.clear_, run_underlying Try.underlying113]

theorem replace_cells (xs ys : List Value) (i j m : Nat) (hj : j = i + 2) (hm : m = ys.length) (hm2 : m ≤ 2) (hl : j ≤ xs.length) :
    ((xs.take i ++ ys ++ xs.drop (i + m)).take (i + m) ++ xs.drop j ++ (xs.take i ++ ys ++ xs.drop (i + m)).drop (i + m + (xs.drop j).length)).take (i + m + (xs.length - j)) = xs.take i ++ ys ++ xs.drop j := by
  subst hj hm
  rw [List.take_append_of_le_length (by simp; omega), List.take_of_length_le (by simp; omega), List.take_append_of_le_length (by simp; omega), List.take_of_length_le (by simp; omega)]

set_option maxRecDepth 100000 in
set_option maxHeartbeats 4000000 in
theorem replace_mid1 (B g cap i r vb : Nat) (xs ys : List Value) (w : World) (hown : w.ownsRow B 59 1 (.slice (some ⟨g, 0, none⟩) (i + 2 + r) cap) (i + 2 + r) xs) (hv : CellsAt w (some ⟨vb, 0, none⟩) 1 ys) (h1 : ∀ u ∈ ys, u.oneCell' = true) (h1x : ∀ u ∈ xs, u.oneCell' = true) (hn : i + 2 + r ≤ 1048576) (hr : 0 < r) :
    Calls Try.prog 125 #[.slice (some ⟨g, 0, none⟩) (i + 2 + r) cap, .int .i64 i, .int .i64 ((i : Int) + 2), .slice (some ⟨vb, 0, none⟩) 1 1] w fun e w' => e = .returned (.slice (some ⟨g, 0, none⟩) (i + 1 + r) cap) ∧ w'.ownsRow B 59 1 (.slice (some ⟨g, 0, none⟩) (i + 1 + r) cap) (i + 1 + r) (xs.take i ++ ys ++ xs.drop (i + 2)) ∧ w.grownBy w' (some g) := by
  obtain ⟨i0, hi0, hz0, hz1, hz2⟩ := info_parts Try.info59
  have hcap := owns_capN hown
  have hx := hown.1
  rw [Nat.mul_one] at hx
  have hy : ys.length = 1 := hv.1
  have oD : w.drew.ownsRow B 59 1 (.slice (some ⟨g, 0, none⟩) (i + 2 + r) cap) (i + 2 + r) xs := hown
  have hvd : CellsAt w.drew (some ⟨vb, 0, none⟩) 1 ys := hv
  have hcp1 : ∀ ty dc, (Builtin.copy_ #[113, 40] ty #[.slice (some ⟨g, i, none⟩) (1 + r) dc, .slice (some ⟨vb, 0, none⟩) 1 1]).run Try.prog w.drew = .ok (goInt ((1 : Nat) : Int)) (w.drew.setCells g i ys) := fun ty dc =>
    run_copyS w.drew _ _ ty 59 g i (1 + r) dc ⟨vb, 0, none⟩ 1 1 1 1 ys i0 Try.underlying113 hi0 hz1 (by simp only [Nat.min_def]; split <;> omega) (by omega)
      (fun j v hj => by
        have hjl := (List.getElem?_eq_some_iff.1 hj).1
        obtain ⟨b, off, ha, hcc⟩ := hvd.2 (by omega)
        simp only [Option.some.injEq, Addr.mk.injEq, and_true] at ha
        obtain ⟨rfl, rfl⟩ := ha
        rw [Addr.add_lit, hcc j (by omega), hj])
      (fun j hj => by
        obtain ⟨u, hu⟩ := owns_some oD (j := i + j) (by omega)
        rw [hu]; rfl)
      (fun j hj => oD.frozenAt _) h1
  have ⟨own1, gr1⟩ := owns_setCells ys i _ _ oD (by omega)
  obtain ⟨W1, hW1⟩ : ∃ W1, W1 = w.drew.setCells g i ys := ⟨_, rfl⟩
  rw [← hW1] at own1 gr1 hcp1
  have gr1' : w.grownBy W1 (some g) := ⟨gr1.os, gr1.tape, gr1.output, gr1.size, gr1.block⟩
  have oD1 : W1.drew.ownsRow B 59 1 (.slice (some ⟨g, 0, none⟩) (i + 2 + r) cap) (i + 2 + r) (xs.take i ++ ys ++ xs.drop (i + ys.length)) := own1
  have hcp2 : ∀ ty dc sc, (Builtin.copy_ #[113, 113] ty #[.slice (some ⟨g, i + 1, none⟩) r dc, .slice (some ⟨g, i + 2, none⟩) r sc]).run Try.prog W1.drew = .ok (goInt ((r : Nat) : Int)) (W1.drew.setCells g (i + 1) (xs.drop (i + 2))) := fun ty dc sc =>
    run_copyS W1.drew _ _ ty 59 g (i + 1) r dc ⟨g, i + 2, none⟩ r sc 1 r (xs.drop (i + 2)) i0 Try.underlying113 hi0 hz1 (by simp only [Nat.min_def]; split <;> omega) (by simp; omega)
      (fun j v hj => by
        have hjl := (List.getElem?_eq_some_iff.1 hj).1
        rw [List.length_drop] at hjl
        rw [Addr.add_lit, oD1.cellAt _ (by omega), List.getElem?_append_right (by simp; omega), List.getElem?_drop]
        rw [List.getElem?_drop] at hj
        rw [← hj]
        congr 1
        simp
        omega)
      (fun j hj => by
        rw [List.length_drop] at hj
        obtain ⟨u, hu⟩ := owns_some oD1 (j := i + 1 + j) (by omega)
        rw [hu]; rfl)
      (fun j hj => oD1.frozenAt _) (fun v hv => h1x v (List.mem_of_mem_drop hv))
  have ⟨own2, gr2⟩ := owns_setCells (xs.drop (i + 2)) (i + 1) _ _ oD1 (by simp; omega)
  obtain ⟨W2, hW2⟩ : ∃ W2, W2 = W1.drew.setCells g (i + 1) (xs.drop (i + 2)) := ⟨_, rfl⟩
  rw [← hW2] at own2 gr2 hcp2
  have gr2' : w.grownBy W2 (some g) := gr_trans gr1' ⟨gr2.os, gr2.tape, gr2.output, gr2.size, gr2.block⟩
  have hcl : ∀ ty c, (Builtin.clear_ #[113] ty #[.slice (some ⟨g, i + 1 + r, none⟩) 1 c]).run Try.prog W2 = .ok (.tuple #[]) (W2.setCells g (i + 1 + r) [.slice none 0 0]) := by
    intro ty c
    refine clearLL W2 ty g (i + 1 + r) c (fun j hj => ?_) (fun j hj => own2.frozenAt _)
    obtain ⟨u, hu⟩ := owns_some own2 (j := i + 1 + r + j) (by omega)
    rw [hu]; rfl
  have ⟨own3, gr3⟩ := owns_setCells [.slice none 0 0] (i + 1 + r) _ _ own2 (by simp; omega)
  have own4 := owns_shrink own3 (m := i + 1 + r) (by omega)
  have gr4 := gr_trans gr2' gr3
  have hE : ((((xs.take i ++ ys ++ xs.drop (i + ys.length)).take (i + 1) ++ xs.drop (i + 2) ++ (xs.take i ++ ys ++ xs.drop (i + ys.length)).drop (i + 1 + (xs.drop (i + 2)).length)).take (i + 1 + r) ++ [Value.slice none 0 0] ++ ((xs.take i ++ ys ++ xs.drop (i + ys.length)).take (i + 1) ++ xs.drop (i + 2) ++ (xs.take i ++ ys ++ xs.drop (i + ys.length)).drop (i + 1 + (xs.drop (i + 2)).length)).drop (i + 1 + r + [Value.slice none 0 0].length)).take ((i + 1 + r) * 1)) = xs.take i ++ ys ++ xs.drop (i + 2) := by
    have h0 := replace_cells xs ys i (i + 2) 1 rfl hy.symm (by omega) (by omega)
    rw [hy, Nat.mul_one]
    rw [show xs.length - (i + 2) = r by omega] at h0
    rw [h0]
    rw [List.append_assoc (xs.take i ++ ys ++ xs.drop (i + 2)), List.take_append_of_le_length (by simp; omega), List.take_of_length_le (by simp; omega)]
  rw [hE] at own4
  have HO := hid own4
  have HG := hid gr4
  clear hE own4 gr4 own1 own2 oD oD1 gr1 gr2 gr1' gr2' hown hv hvd hy hW1 hW2 hx
  have hj0 : ((i : Int) == (i : Int) + 2) = false := by simp; omega
  have hj1 : ((i : Int) + 2 == ((i + 2 + r : Nat) : Int)) = false := by simp; omega
  have hic : i ≤ cap := by omega
  have hin : i ≤ i + 2 + r := by omega
  have hb4 : ¬ cap = i := by omega
  have hb5 : ¬ cap = i + 2 := by omega
  have ht2 : ((i : Int) + 2).toNat = i + 2 := by omega
  have h2n : i + 2 ≤ cap := by omega
  have htot : ((i : Int) + 1 + (r : Int)).toNat = i + 1 + r := by omega
  have hsub : i + 2 + r - (i + 2) = r := by omega
  have hs1 : i + 1 + r - i = 1 + r := by omega
  have hs2 : i + 1 + r - (i + 1) = r := by omega
  have hs3 : i + 2 + r - (i + 1 + r) = 1 := by omega
  have hs4 : ((i : Int) + 1).toNat = i + 1 := by omega
  have hb6 : ¬ cap = i + 1 := by omega
  have hb7 : ¬ cap = i + 1 + r := by omega
  go_enter Try.func125, Try.ntmps125
  go_wp2
  go_region
  go_wp2
  go_region
  go_wp2
  go_ret
  exact ⟨rfl, HO.out, HG.out⟩

set_option maxRecDepth 100000 in
set_option maxHeartbeats 4000000 in
theorem replace_mid2 (B g cap i r vb : Nat) (xs ys : List Value) (w : World) (hown : w.ownsRow B 59 1 (.slice (some ⟨g, 0, none⟩) (i + 2 + r) cap) (i + 2 + r) xs) (hv : CellsAt w (some ⟨vb, 0, none⟩) 2 ys) (h1 : ∀ u ∈ ys, u.oneCell' = true) (h1x : ∀ u ∈ xs, u.oneCell' = true) (hn : i + 2 + r ≤ 1048576) (hr : 0 < r) :
    Calls Try.prog 125 #[.slice (some ⟨g, 0, none⟩) (i + 2 + r) cap, .int .i64 i, .int .i64 ((i : Int) + 2), .slice (some ⟨vb, 0, none⟩) 2 2] w fun e w' => e = .returned (.slice (some ⟨g, 0, none⟩) (i + 2 + r) cap) ∧ w'.ownsRow B 59 1 (.slice (some ⟨g, 0, none⟩) (i + 2 + r) cap) (i + 2 + r) (xs.take i ++ ys ++ xs.drop (i + 2)) ∧ w.grownBy w' (some g) := by
  obtain ⟨i0, hi0, hz0, hz1, hz2⟩ := info_parts Try.info59
  have hcap := owns_capN hown
  have hx := hown.1
  rw [Nat.mul_one] at hx
  have hy : ys.length = 2 := hv.1
  have oD : w.drew.ownsRow B 59 1 (.slice (some ⟨g, 0, none⟩) (i + 2 + r) cap) (i + 2 + r) xs := hown
  have hvd : CellsAt w.drew (some ⟨vb, 0, none⟩) 2 ys := hv
  have hcp1 : ∀ ty dc, (Builtin.copy_ #[113, 40] ty #[.slice (some ⟨g, i, none⟩) (2 + r) dc, .slice (some ⟨vb, 0, none⟩) 2 2]).run Try.prog w.drew = .ok (goInt ((2 : Nat) : Int)) (w.drew.setCells g i ys) := fun ty dc =>
    run_copyS w.drew _ _ ty 59 g i (2 + r) dc ⟨vb, 0, none⟩ 2 2 1 2 ys i0 Try.underlying113 hi0 hz1 (by simp only [Nat.min_def]; split <;> omega) (by omega)
      (fun j v hj => by
        have hjl := (List.getElem?_eq_some_iff.1 hj).1
        obtain ⟨b, off, ha, hcc⟩ := hvd.2 (by omega)
        simp only [Option.some.injEq, Addr.mk.injEq, and_true] at ha
        obtain ⟨rfl, rfl⟩ := ha
        rw [Addr.add_lit, hcc j (by omega), hj])
      (fun j hj => by
        obtain ⟨u, hu⟩ := owns_some oD (j := i + j) (by omega)
        rw [hu]; rfl)
      (fun j hj => oD.frozenAt _) h1
  have ⟨own1, gr1⟩ := owns_setCells ys i _ _ oD (by omega)
  obtain ⟨W1, hW1⟩ : ∃ W1, W1 = w.drew.setCells g i ys := ⟨_, rfl⟩
  rw [← hW1] at own1 gr1 hcp1
  have gr1' : w.grownBy W1 (some g) := ⟨gr1.os, gr1.tape, gr1.output, gr1.size, gr1.block⟩
  have oD1 : W1.drew.ownsRow B 59 1 (.slice (some ⟨g, 0, none⟩) (i + 2 + r) cap) (i + 2 + r) (xs.take i ++ ys ++ xs.drop (i + ys.length)) := own1
  have hcp2 : ∀ ty dc sc, (Builtin.copy_ #[113, 113] ty #[.slice (some ⟨g, i + 2, none⟩) r dc, .slice (some ⟨g, i + 2, none⟩) r sc]).run Try.prog W1.drew = .ok (goInt ((r : Nat) : Int)) (W1.drew.setCells g (i + 2) (xs.drop (i + 2))) := fun ty dc sc =>
    run_copyS W1.drew _ _ ty 59 g (i + 2) r dc ⟨g, i + 2, none⟩ r sc 1 r (xs.drop (i + 2)) i0 Try.underlying113 hi0 hz1 (by simp only [Nat.min_def]; split <;> omega) (by simp; omega)
      (fun j v hj => by
        have hjl := (List.getElem?_eq_some_iff.1 hj).1
        rw [List.length_drop] at hjl
        rw [Addr.add_lit, oD1.cellAt _ (by omega), List.getElem?_append_right (by simp; omega), List.getElem?_drop]
        rw [List.getElem?_drop] at hj
        rw [← hj]
        congr 1
        simp
        omega)
      (fun j hj => by
        rw [List.length_drop] at hj
        obtain ⟨u, hu⟩ := owns_some oD1 (j := i + 2 + j) (by omega)
        rw [hu]; rfl)
      (fun j hj => oD1.frozenAt _) (fun v hv => h1x v (List.mem_of_mem_drop hv))
  have ⟨own2, gr2⟩ := owns_setCells (xs.drop (i + 2)) (i + 2) _ _ oD1 (by simp; omega)
  obtain ⟨W2, hW2⟩ : ∃ W2, W2 = W1.drew.setCells g (i + 2) (xs.drop (i + 2)) := ⟨_, rfl⟩
  rw [← hW2] at own2 gr2 hcp2
  have gr2' : w.grownBy W2 (some g) := gr_trans gr1' ⟨gr2.os, gr2.tape, gr2.output, gr2.size, gr2.block⟩
  have hcl : ∀ ty c ad, (Builtin.clear_ #[113] ty #[.slice (some ad) 0 c]).run Try.prog W2 = .ok (.tuple #[]) W2 := fun ty c ad => clearLL0 W2 ty c ad
  have own4 := owns_shrink own2 (m := i + 2 + r) (by omega)
  have gr4 := gr2'
  have hE : (((xs.take i ++ ys ++ xs.drop (i + ys.length)).take (i + 2) ++ xs.drop (i + 2) ++ (xs.take i ++ ys ++ xs.drop (i + ys.length)).drop (i + 2 + (xs.drop (i + 2)).length)).take ((i + 2 + r) * 1)) = xs.take i ++ ys ++ xs.drop (i + 2) := by
    have h0 := replace_cells xs ys i (i + 2) 2 rfl hy.symm (by omega) (by omega)
    rw [hy, Nat.mul_one]
    rw [show xs.length - (i + 2) = r by omega] at h0
    exact h0
  rw [hE] at own4
  have HO := hid own4
  have HG := hid gr4
  clear hE own4 gr4 own1 own2 oD oD1 gr1 gr2 gr1' gr2' hown hv hvd hy hW1 hW2 hx
  have hj0 : ((i : Int) == (i : Int) + 2) = false := by simp; omega
  have hj1 : ((i : Int) + 2 == ((i + 2 + r : Nat) : Int)) = false := by simp; omega
  have hic : i ≤ cap := by omega
  have hin : i ≤ i + 2 + r := by omega
  have hb4 : ¬ cap = i := by omega
  have hb5 : ¬ cap = i + 2 := by omega
  have ht2 : ((i : Int) + 2).toNat = i + 2 := by omega
  have h2n : i + 2 ≤ cap := by omega
  have htot : ((i : Int) + 2 + (r : Int)).toNat = i + 2 + r := by omega
  have hsub : i + 2 + r - (i + 2) = r := by omega
  have hs1 : i + 2 + r - i = 2 + r := by omega
  have hs2 : i + 2 + r - (i + 2) = r := by omega
  have hs3 : i + 2 + r - (i + 2 + r) = 0 := by omega
  have hs4 : ((i : Int) + 2).toNat = i + 2 := by omega
  have hb6 : ¬ cap = i + 2 := by omega
  obtain ⟨A, hA⟩ : ∃ A : Addr, (if cap = i + 2 + r then some (⟨g, 0, none⟩ : Addr) else some ⟨g, i + 2 + r, none⟩) = some A := by split <;> exact ⟨_, rfl⟩
  go_enter Try.func125, Try.ntmps125
  go_wp2
  go_region
  go_wp2
  go_region
  go_wp2
  go_ret
  exact ⟨rfl, HO.out, HG.out⟩
end Go.Proofs.Ytofhkncdjjlllaa


/- The library's Replace at the end of the list, and as a whole. -/
namespace Go.Proofs.Ytofhkncdjjlllaa
open Go.RowKit

theorem run_append_roomX (w : World) (ty : TypeId) (i : TypeInfo) (hi : Try.prog.info? 59 = some i) (hz : i.size = 1)
    (g off sLen sCap : Nat) (a : Addr) (m c : Nat) (news : List Value) (hl : news.length = m) (hnews : ∀ j u, news[j]? = some u → w.cell? (a.add j) = some u) (h1 : ∀ u ∈ news, u.oneCell' = true)
    (hroom : sLen + m ≤ sCap) (hc : ∀ j, j < news.length → (w.cell? ⟨g, off + sLen + j, none⟩).isSome = true) (hf : ∀ j, j < news.length → w.frozen? ⟨g, off + sLen + j, none⟩ = false) :
    (Builtin.append_ #[113, 40] ty #[.slice (some ⟨g, off, none⟩) sLen sCap, .slice (some a) m c]).run Try.prog w =
      .ok (.slice (some ⟨g, off, none⟩) (sLen + m) sCap) (w.setCells g (off + sLen) news) := by
  have hfc := run_firstCells_some (P := Try.prog) w 1 m a m c news (by omega) hnews
  have hst := run_storeCells_cells (P := Try.prog) g (off + sLen) news 0 w (by simpa using hc) (by simpa using hf) h1
  simp only [Nat.add_zero] at hst
  simp [Builtin.append_, run_underlying Try.underlying113, run_underlying Try.underlying40, sizeOf, typeInfo, hi, hz, Builtin.lenOf, hroom, hfc, Addr.add_lit, hst]

set_option maxRecDepth 100000 in
set_option maxHeartbeats 4000000 in
theorem replace_end1 (B g cap i vb : Nat) (xs ys : List Value) (w : World) (hown : w.ownsRow B 59 1 (.slice (some ⟨g, 0, none⟩) (i + 2) cap) (i + 2) xs) (hv : CellsAt w (some ⟨vb, 0, none⟩) 1 ys) (h1 : ∀ u ∈ ys, u.oneCell' = true) (hn : i + 2 ≤ 1048576) :
    Calls Try.prog 125 #[.slice (some ⟨g, 0, none⟩) (i + 2) cap, .int .i64 i, .int .i64 ((i : Int) + 2), .slice (some ⟨vb, 0, none⟩) 1 1] w fun e w' => e = .returned (.slice (some ⟨g, 0, none⟩) (i + 1) cap) ∧ w'.ownsRow B 59 1 (.slice (some ⟨g, 0, none⟩) (i + 1) cap) (i + 1) (xs.take i ++ ys ++ xs.drop (i + 2)) ∧ w.grownBy w' (some g) := by
  obtain ⟨i0, hi0, hz0, hz1, hz2⟩ := info_parts Try.info59
  have hcap := owns_capN hown
  have hx := hown.1
  rw [Nat.mul_one] at hx
  have hy : ys.length = 1 := hv.1
  have hap : ∀ ty, (Builtin.append_ #[113, 40] ty #[.slice (some ⟨g, 0, none⟩) i cap, .slice (some ⟨vb, 0, none⟩) 1 1]).run Try.prog w = .ok (.slice (some ⟨g, 0, none⟩) (i + 1) cap) (w.setCells g i ys) := fun ty => by
    have := run_append_roomX w ty i0 hi0 hz1 g 0 i cap ⟨vb, 0, none⟩ 1 1 ys hy
      (fun j v hj => by
        have hjl := (List.getElem?_eq_some_iff.1 hj).1
        obtain ⟨b, off, ha, hcc⟩ := hv.2 (by omega)
        simp only [Option.some.injEq, Addr.mk.injEq, and_true] at ha
        obtain ⟨rfl, rfl⟩ := ha
        rw [Addr.add_lit, hcc j (by omega), hj]) h1 (by omega)
      (fun j hj => by
        obtain ⟨u, hu⟩ := owns_some hown (j := 0 + i + j) (by omega)
        rw [hu]; rfl)
      (fun j hj => hown.frozenAt _)
    simpa using this
  have ⟨own1, gr1⟩ := owns_setCells ys i _ _ hown (by omega)
  obtain ⟨W1, hW1⟩ : ∃ W1, W1 = w.setCells g i ys := ⟨_, rfl⟩
  rw [← hW1] at own1 gr1 hap
  have gr1' : w.grownBy W1 (some g) := gr1
  have hcl : ∀ ty c, (Builtin.clear_ #[113] ty #[.slice (some ⟨g, i + 1, none⟩) 1 c]).run Try.prog W1 = .ok (.tuple #[]) (W1.setCells g (i + 1) [.slice none 0 0]) := by
    intro ty c
    refine clearLL W1 ty g (i + 1) c (fun j hj => ?_) (fun j hj => own1.frozenAt _)
    obtain ⟨u, hu⟩ := owns_some own1 (j := i + 1 + j) (by omega)
    rw [hu]; rfl
  have ⟨own3, gr3⟩ := owns_setCells [.slice none 0 0] (i + 1) _ _ own1 (by simp; omega)
  have own4 := owns_shrink own3 (m := i + 1) (by omega)
  have gr4 := gr_trans gr1' gr3
  have hE : (((xs.take i ++ ys ++ xs.drop (i + ys.length)).take (i + 1) ++ [Value.slice none 0 0] ++ (xs.take i ++ ys ++ xs.drop (i + ys.length)).drop (i + 1 + [Value.slice none 0 0].length)).take ((i + 1) * 1)) = xs.take i ++ ys ++ xs.drop (i + 2) := by
    rw [Nat.mul_one, List.append_assoc, List.take_append_of_le_length (by simp; omega), List.take_take, Nat.min_self, List.take_append_of_le_length (by simp; omega), List.take_of_length_le (by simp; omega), List.drop_of_length_le (by omega), List.append_nil]
  rw [hE] at own4
  have HO := hid own4
  have HG := hid gr4
  clear hE own4 gr4 own1 gr1 gr1' hown hv hy hW1 hx
  have hj0 : ((i : Int) == (i : Int) + 2) = false := by simp; omega
  have hj1 : ((i : Int) + 2 == ((i + 2 : Nat) : Int)) = true := by simp
  have hic : i ≤ cap := by omega
  have hin : i ≤ i + 2 := by omega
  have hb4 : ¬ cap = i := by omega
  have ht2 : ((i : Int) + 2).toNat = i + 2 := by omega
  have h2n : i + 2 ≤ cap := by omega
  have hb7 : ¬ cap = i + 1 := by omega
  have hs3 : i + 2 - (i + 1) = 1 := by omega
  go_enter Try.func125, Try.ntmps125
  go_wp2_with (at_builtin; go_must (refine Lib.wpList_append_run _ ?_ (.tmp 32) (.tmp 33) 113 40 ?_ _ _ ?_ ?_ _ _ (hap _) ?_; exact rfl; exact rfl; exact rfl; exact rfl))
  go_ret
  exact ⟨rfl, HO.out, HG.out⟩

set_option maxRecDepth 100000 in
set_option maxHeartbeats 4000000 in
theorem replace_end2 (B g cap i vb : Nat) (xs ys : List Value) (w : World) (hown : w.ownsRow B 59 1 (.slice (some ⟨g, 0, none⟩) (i + 2) cap) (i + 2) xs) (hv : CellsAt w (some ⟨vb, 0, none⟩) 2 ys) (h1 : ∀ u ∈ ys, u.oneCell' = true) (hn : i + 2 ≤ 1048576) :
    Calls Try.prog 125 #[.slice (some ⟨g, 0, none⟩) (i + 2) cap, .int .i64 i, .int .i64 ((i : Int) + 2), .slice (some ⟨vb, 0, none⟩) 2 2] w fun e w' => e = .returned (.slice (some ⟨g, 0, none⟩) (i + 2) cap) ∧ w'.ownsRow B 59 1 (.slice (some ⟨g, 0, none⟩) (i + 2) cap) (i + 2) (xs.take i ++ ys ++ xs.drop (i + 2)) ∧ w.grownBy w' (some g) := by
  obtain ⟨i0, hi0, hz0, hz1, hz2⟩ := info_parts Try.info59
  have hcap := owns_capN hown
  have hx := hown.1
  rw [Nat.mul_one] at hx
  have hy : ys.length = 2 := hv.1
  have hap : ∀ ty, (Builtin.append_ #[113, 40] ty #[.slice (some ⟨g, 0, none⟩) i cap, .slice (some ⟨vb, 0, none⟩) 2 2]).run Try.prog w = .ok (.slice (some ⟨g, 0, none⟩) (i + 2) cap) (w.setCells g i ys) := fun ty => by
    have := run_append_roomX w ty i0 hi0 hz1 g 0 i cap ⟨vb, 0, none⟩ 2 2 ys hy
      (fun j v hj => by
        have hjl := (List.getElem?_eq_some_iff.1 hj).1
        obtain ⟨b, off, ha, hcc⟩ := hv.2 (by omega)
        simp only [Option.some.injEq, Addr.mk.injEq, and_true] at ha
        obtain ⟨rfl, rfl⟩ := ha
        rw [Addr.add_lit, hcc j (by omega), hj]) h1 (by omega)
      (fun j hj => by
        obtain ⟨u, hu⟩ := owns_some hown (j := 0 + i + j) (by omega)
        rw [hu]; rfl)
      (fun j hj => hown.frozenAt _)
    simpa using this
  have ⟨own1, gr1⟩ := owns_setCells ys i _ _ hown (by omega)
  obtain ⟨W1, hW1⟩ : ∃ W1, W1 = w.setCells g i ys := ⟨_, rfl⟩
  rw [← hW1] at own1 gr1 hap
  have gr1' : w.grownBy W1 (some g) := gr1
  have own4 := own1
  have gr4 := gr1'
  have hE : xs.take i ++ ys ++ xs.drop (i + ys.length) = xs.take i ++ ys ++ xs.drop (i + 2) := by rw [hy]
  rw [hE] at own4
  have HO := hid own4
  have HG := hid gr4
  clear hE own4 gr4 own1 gr1 gr1' hown hv hy hW1 hx
  have hj0 : ((i : Int) == (i : Int) + 2) = false := by simp; omega
  have hj1 : ((i : Int) + 2 == ((i + 2 : Nat) : Int)) = true := by simp
  have hic : i ≤ cap := by omega
  have hin : i ≤ i + 2 := by omega
  have hb4 : ¬ cap = i := by omega
  have ht2 : ((i : Int) + 2).toNat = i + 2 := by omega
  have h2n : i + 2 ≤ cap := by omega
  go_enter Try.func125, Try.ntmps125
  go_wp2_with (at_builtin; go_must (refine Lib.wpList_append_run _ ?_ (.tmp 32) (.tmp 33) 113 40 ?_ _ _ ?_ ?_ _ _ (hap _) ?_; exact rfl; exact rfl; exact rfl; exact rfl))
  go_ret
  exact ⟨rfl, HO.out, HG.out⟩

/-- Two leaves replaced by one. -/
theorem replace_one (B g n cap i vb : Nat) (xs ys : List Value) (w : World) (hown : w.ownsRow B 59 1 (.slice (some ⟨g, 0, none⟩) n cap) n xs) (hv : CellsAt w (some ⟨vb, 0, none⟩) 1 ys) (h1 : ∀ u ∈ ys, u.oneCell' = true) (h1x : ∀ u ∈ xs, u.oneCell' = true) (hn : n ≤ 1048576) (hi : i + 1 < n) :
    Calls Try.prog 125 #[.slice (some ⟨g, 0, none⟩) n cap, .int .i64 i, .int .i64 ((i : Int) + 2), .slice (some ⟨vb, 0, none⟩) 1 1] w fun e w' => e = .returned (.slice (some ⟨g, 0, none⟩) (n - 1) cap) ∧ w'.ownsRow B 59 1 (.slice (some ⟨g, 0, none⟩) (n - 1) cap) (n - 1) (xs.take i ++ ys ++ xs.drop (i + 2)) ∧ w.grownBy w' (some g) := by
  obtain ⟨r, rfl⟩ : ∃ r, n = i + 2 + r := ⟨n - i - 2, by omega⟩
  rw [show i + 2 + r - 1 = i + 1 + r by omega]
  rcases Nat.eq_zero_or_pos r with h0 | h0
  · subst h0
    exact replace_end1 B g cap i vb xs ys w hown hv h1 hn
  · exact replace_mid1 B g cap i r vb xs ys w hown hv h1 h1x hn h0
/-- Two leaves replaced by two. -/
theorem replace_two (B g n cap i vb : Nat) (xs ys : List Value) (w : World) (hown : w.ownsRow B 59 1 (.slice (some ⟨g, 0, none⟩) n cap) n xs) (hv : CellsAt w (some ⟨vb, 0, none⟩) 2 ys) (h1 : ∀ u ∈ ys, u.oneCell' = true) (h1x : ∀ u ∈ xs, u.oneCell' = true) (hn : n ≤ 1048576) (hi : i + 1 < n) :
    Calls Try.prog 125 #[.slice (some ⟨g, 0, none⟩) n cap, .int .i64 i, .int .i64 ((i : Int) + 2), .slice (some ⟨vb, 0, none⟩) 2 2] w fun e w' => e = .returned (.slice (some ⟨g, 0, none⟩) n cap) ∧ w'.ownsRow B 59 1 (.slice (some ⟨g, 0, none⟩) n cap) n (xs.take i ++ ys ++ xs.drop (i + 2)) ∧ w.grownBy w' (some g) := by
  obtain ⟨r, rfl⟩ : ∃ r, n = i + 2 + r := ⟨n - i - 2, by omega⟩
  rcases Nat.eq_zero_or_pos r with h0 | h0
  · subst h0
    exact replace_end2 B g cap i vb xs ys w hown hv h1 hn
  · exact replace_mid2 B g cap i r vb xs ys w hown hv h1 h1x hn h0
end Go.Proofs.Ytofhkncdjjlllaa

