
/- JoinModes of the program: the set of those that cover both. -/
import Derived.Test.YteblnejpohjjmaaModS
import Derived.Test.YteblnejpohjjmaaPackA
import Derived.ChangeKeysEq
namespace Go.Proofs.Yteblnejpohjjmaa
open Go.RowKit

/-- k covers both. -/
def Ch.both (a b : Int) (k : Nat) : Bool := Ch.tab Ch.covT k a && Ch.tab Ch.covT k b

theorem neqSet (x0 x1 x2 x3 x4 x5 y0 y1 y2 y3 y4 y5 : Bool) (w : World) :
    (binOp .neq 89 (.agg #[.bool x0, .bool x1, .bool x2, .bool x3, .bool x4, .bool x5]) (.agg #[.bool y0, .bool y1, .bool y2, .bool y3, .bool y4, .bool y5])).run Try.prog w
      = .ok (.bool (!(x0 == y0 && x1 == y1 && x2 == y2 && x3 == y3 && x4 == y4 && x5 == y5))) w := by
  have hu : Try.prog.underlying 89 = some (.array 6 4) := by kernel_rfl
  have hc : Try.prog.cellsOf 4 = 1 := by kernel_rfl
  obtain ⟨i, hi⟩ : ∃ i, Try.prog.info? 4 = some i := Option.isSome_iff_exists.1 (by kernel_rfl)
  have u4 := Try.underlying4
  have a4 := Try.isAgg4
  have z4 := Try.sizeOf4
  rw [run_neq_struct, show (10000 : Nat) = 9999 + 1 from rfl, run_equalIn_array w 9999 _ _ hu hi, hc]
  simp only [List.range, List.range.loop, Op.eqItems]
  clear hi hc hu
  go_simp
  cases x0 <;> cases y0 <;> (try rfl) <;> cases x1 <;> cases y1 <;> (try rfl) <;> cases x2 <;> cases y2 <;> (try rfl) <;> cases x3 <;> cases y3 <;> (try rfl) <;> cases x4 <;> cases y4 <;> (try rfl) <;> cases x5 <;> cases y5 <;> rfl

theorem covAt {a b : Int} (ha : Ch.isM a = true) (hb : Ch.isM b = true) (w : World) :
    Calls Try.prog 18 #[.int .i64 a, .int .i64 b] w fun e w' => e = .returned (.bool (Ch.tab Ch.covT a b)) ∧ Below w.heap.size w w' := by
  have := implCov_any a b w
  rw [ha, hb] at this
  exact this

theorem isM_nat {k : Nat} (h : k < 6) : Ch.isM k = true := by simp [Ch.isM, Ch.inB]; omega

/-- The cells of a set that is filled up to k. -/
def SetAt (w : World) (g : Nat) (a b : Int) (k : Nat) : Prop :=
  ∀ i : Nat, i < 6 → w.cell? ⟨g, i, none⟩ = some (.bool (decide (i < k) && Ch.both a b i)) ∧ w.frozen? ⟨g, i, none⟩ = false

theorem SetAt.below {w w' : World} {g : Nat} {a b : Int} {k : Nat} (h : SetAt w g a b k) (hb : Below w.heap.size w w') : SetAt w' g a b k := fun i hi =>
  ⟨keep_cell hb (h i hi).1, ((bcell hb).2 g i (lt_of_cell (h i hi).1)).trans (h i hi).2⟩
theorem SetAt.set {w : World} {g : Nat} {a b : Int} {k : Nat} (h : SetAt w g a b k) (hk : k < 6) : SetAt (w.setCell ⟨g, k, none⟩ (.bool (Ch.both a b k))) g a b (k + 1) := fun i hi => by
  refine ⟨?_, by rw [World.frozen?_setCell]; exact (h i hi).2⟩
  by_cases hik : k = i
  · subst hik
    rw [World.cell?_setCell_same _ _ _ (h k hk).1]
    simp
  · rw [World.cell?_setCell_other _ _ _ _ (by simp), (h i hi).1]
    have : decide (i < k + 1) = decide (i < k) := by
      by_cases h1 : i < k
      · simp [h1, show i < k + 1 by omega]
      · simp [h1, show ¬ i < k + 1 by omega]
    rw [this]
theorem SetAt.far {w : World} {g g' j : Nat} {a b : Int} {k : Nat} {v : Value} (h : SetAt w g a b k) (hne : g' ≠ g) : SetAt (w.setCell ⟨g', j, none⟩ v) g a b k := fun i hi => by
  refine ⟨?_, by rw [World.frozen?_setCell]; exact (h i hi).2⟩
  rw [World.cell?_setCell_other _ _ _ _ (by simp)]
  exact (h i hi).1

theorem SetAt.full {w : World} {g : Nat} {a b : Int} (h : SetAt w g a b 6) : w.cell? ⟨g, 0, none⟩ = some (.bool (Ch.both a b 0)) ∧ w.cell? ⟨g, 1, none⟩ = some (.bool (Ch.both a b 1)) ∧ w.cell? ⟨g, 2, none⟩ = some (.bool (Ch.both a b 2)) ∧ w.cell? ⟨g, 3, none⟩ = some (.bool (Ch.both a b 3)) ∧ w.cell? ⟨g, 4, none⟩ = some (.bool (Ch.both a b 4)) ∧ w.cell? ⟨g, 5, none⟩ = some (.bool (Ch.both a b 5)) :=
  ⟨(h 0 (by omega)).1, (h 1 (by omega)).1, (h 2 (by omega)).1, (h 3 (by omega)).1, (h 4 (by omega)).1, (h 5 (by omega)).1⟩

set_option maxHeartbeats 1000000 in
theorem coverBoth_any (a b : Int) (w : World) (ha : Ch.isM a = true) (hb : Ch.isM b = true) :
    Calls Try.prog 112 #[.int .i64 a, .int .i64 b] w fun e w' => e = .returned (.agg #[.bool (Ch.both a b 0), .bool (Ch.both a b 1), .bool (Ch.both a b 2), .bool (Ch.both a b 3), .bool (Ch.both a b 4), .bool (Ch.both a b 5)]) ∧ Below w.heap.size w w' := by
  go_enter Try.func112, Try.ntmps112
  go_wp2_with fail
  have hT : Below w.heap.size w ((w.alloc (.cells #[.bool false, .bool false, .bool false, .bool false, .bool false, .bool false] 89)).alloc (.cells #[.bool false, .bool false, .bool false, .bool false, .bool false, .bool false] 89)) := ((Below.refl _ _).alloc (Nat.le_refl _) _).alloc (by simp) _
  go_loopw [7] (fun i wr => ∃ k : Nat, k ≤ 6 ∧ i = .int .i64 k ∧ SetAt wr (w.heap.size + 1) a b k ∧ SetAt wr w.heap.size a b 0 ∧ Below w.heap.size w wr) (fun i _ => 6 - (intOf i).toNat)
  case atStart =>
    refine ⟨0, by omega, rfl, ?_, ?_, hT⟩
    all_goals
      intro i hi
      have : i = 0 ∨ i = 1 ∨ i = 2 ∨ i = 3 ∨ i = 4 ∨ i = 5 := by omega
      rcases this with rfl | rfl | rfl | rfl | rfl | rfl
      all_goals exact ⟨by go_simp, by go_simp⟩
  case round =>
    obtain ⟨k, hk, rfl, S1, S0, hB⟩ := hrel
    clear hT
    by_cases hlt : k < 6
    · have HA := fun W => covAt (isM_nat hlt) ha W
      have HB := fun W => covAt (isM_nat hlt) hb W
      have hV : Hid (Ch.both a b k = (Ch.tab Ch.covT k a && Ch.tab Ch.covT k b)) := rfl
      generalize Ch.tab Ch.covT k a = p at *
      generalize Ch.tab Ch.covT k b = q at *
      have hkl : (k : Int) < 6 := by omega
      clear ha hb
      cases p
      · go_wp2_with fail
        refine (HA _).mono ?_
        rintro e w2 ⟨rfl, b2⟩
        obtain ⟨c1, f1⟩ := (S1.below b2) k hlt
        have P1 := (S1.below b2).set hlt
        have P0 := (S0.below b2).far (g' := w.heap.size + 1) (j := k) (v := .bool (Ch.both a b k)) (by omega)
        rw [hV.out] at P1 P0
        have B2 := hB.trans (b2.mono hB.size)
        clear S1 S0
        go_wp2_with fail
        go_roundw
        case rel => exact ⟨k + 1, by omega, by go_num, P1, P0, B2.setCell (p := ⟨w.heap.size + 1, k, none⟩) (by simp) _⟩
        case measure => simp [intOf]; omega
      · go_wp2_with fail
        refine (HA _).mono ?_
        rintro e w1 ⟨rfl, b1⟩
        go_wp2_with fail
        refine (HB _).mono ?_
        rintro e w2 ⟨rfl, b2⟩
        obtain ⟨c1, f1⟩ := ((S1.below b1).below b2) k hlt
        have P1 := ((S1.below b1).below b2).set hlt
        have P0 := ((S0.below b1).below b2).far (g' := w.heap.size + 1) (j := k) (v := .bool (Ch.both a b k)) (by omega)
        rw [hV.out] at P1 P0
        have B1 := hB.trans (b1.mono hB.size)
        have B2 := B1.trans (b2.mono B1.size)
        clear S1 S0
        go_wp2_with fail
        go_roundw
        case rel => exact ⟨k + 1, by omega, by go_num, P1, P0, B2.setCell (p := ⟨w.heap.size + 1, k, none⟩) (by simp) _⟩
        case measure => simp [intOf]; omega
    · obtain rfl : k = 6 := by omega
      obtain ⟨x0, x1, x2, x3, x4, x5⟩ := S1.full
      obtain ⟨y0, z0⟩ := S0 0 (by omega)
      obtain ⟨y1, z1⟩ := S0 1 (by omega)
      obtain ⟨y2, z2⟩ := S0 2 (by omega)
      obtain ⟨y3, z3⟩ := S0 3 (by omega)
      obtain ⟨y4, z4⟩ := S0 4 (by omega)
      obtain ⟨y5, z5⟩ := S0 5 (by omega)
      obtain ⟨v0, hv0⟩ : ∃ v, Hid (Ch.both a b 0 = v) := ⟨_, rfl⟩
      rw [hv0.out] at x0
      obtain ⟨v1, hv1⟩ : ∃ v, Hid (Ch.both a b 1 = v) := ⟨_, rfl⟩
      rw [hv1.out] at x1
      obtain ⟨v2, hv2⟩ : ∃ v, Hid (Ch.both a b 2 = v) := ⟨_, rfl⟩
      rw [hv2.out] at x2
      obtain ⟨v3, hv3⟩ : ∃ v, Hid (Ch.both a b 3 = v) := ⟨_, rfl⟩
      rw [hv3.out] at x3
      obtain ⟨v4, hv4⟩ : ∃ v, Hid (Ch.both a b 4 = v) := ⟨_, rfl⟩
      rw [hv4.out] at x4
      obtain ⟨v5, hv5⟩ : ∃ v, Hid (Ch.both a b 5 = v) := ⟨_, rfl⟩
      rw [hv5.out] at x5
      clear S1 S0 ha hb
      go_wp2_with fail
      refine bodyPost_ret (v := .agg #[.bool v0, .bool v1, .bool v2, .bool v3, .bool v4, .bool v5]) (by simp [results, Try.results112, go_sem, y0, y1, y2, y3, y4, y5]) rfl ⟨by rw [hv0.out, hv1.out, hv2.out, hv3.out, hv4.out, hv5.out], ?_⟩
      exact (((((hB.setCell (p := ⟨w.heap.size, 0, none⟩) (Nat.le_refl _) _).setCell (p := ⟨w.heap.size, 1, none⟩) (Nat.le_refl _) _).setCell (p := ⟨w.heap.size, 2, none⟩) (Nat.le_refl _) _).setCell (p := ⟨w.heap.size, 3, none⟩) (Nat.le_refl _) _).setCell (p := ⟨w.heap.size, 4, none⟩) (Nat.le_refl _) _).setCell (p := ⟨w.heap.size, 5, none⟩) (Nat.le_refl _) _
end Go.Proofs.Yteblnejpohjjmaa
