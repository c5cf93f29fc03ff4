
/- DrawCycleFrom; numbers held against one another. -/
import Derived.Test.YtmolddlmjojceaaCyD
import Derived.Test.YtmolddlmjojceaaLkN
namespace Go.Proofs.Ytmolddlmjojceaa
open Go.RowKit

theorem ret_boolC {a b : Bool} (h : a = b) : Ending.returned (.bool a) = .returned (.bool b) := by rw [h]
theorem Ch.has_snocC {zs : List Int} {v : Int} {k : Nat} (hk : k < zs.length) : (zs.take (k + 1)).contains v = ((zs.take k).contains v || (zs.getD k 0 == v)) := by
  rw [Ch.take_snoc zs 0 k hk, Bool.eq_iff_iff]
  simp only [List.contains_iff_mem, List.mem_append, List.mem_singleton, Bool.or_eq_true, beq_iff_eq]
  exact or_congr_right ⟨fun h => h.symm, fun h => h.symm⟩
theorem Ch.has_yesC {zs : List Int} {v : Int} {k : Nat} (hk : k < zs.length) (h : zs.getD k 0 = v) : zs.contains v = true := by
  rw [List.contains_iff_mem, ← h]
  simp [List.getD, hk]
theorem lwHasC_any (a : Option Addr) (n cap : Nat) (v : Int) (zs : List Int) (w : World) (h : CellsAt w a (n * 1) (icells zs)) (hn : n ≤ 4194304) :
    Calls Try.prog 10 #[.slice a n cap, .int .i64 v] w fun e w' => e = .returned (.bool (zs.contains v)) ∧ w' = w := by
  have HL := h.ilen
  obtain ⟨c, HC⟩ : ∃ c, Hid (zs.contains v = c) := ⟨_, rfl⟩
  rw [HC.out]
  go_enter Try.func10, Try.ntmps10
  go_wp2
  go_loop [5] (fun i => ∃ k : Nat, k ≤ n ∧ i = .int .i64 k ∧ Hid ((zs.take k).contains v = false)) (fun i => n - (intOf i).toNat)
  case atStart => exact ⟨0, Nat.zero_le _, rfl, rfl⟩
  case round =>
    obtain ⟨k, hk, rfl, HH⟩ := hrel
    by_cases hlt : k < n
    · have hkl : k < zs.length := by have := HL.out; omega
      have HY := hid (fun he => Ch.has_yesC (v := v) hkl he)
      have HN := hid (Ch.has_snocC (v := v) hkl)
      obtain ⟨b, off, rfl, hc0⟩ := h.int hlt
      have hbl := lt_of_cell hc0
      generalize zs.getD k 0 = z at *
      by_cases he : z = v
      · replace HY := hid (HY.out he)
        have e1 : (z == v) = true := by simpa using he
        clear he HN
        go_wp2
        go_ret
        exact ⟨ret_boolC (HY.out.symm.trans HC.out), rfl⟩
      · have e1 : (z == v) = false := by simpa using he
        rw [HH.out, e1] at HN
        clear he HY
        go_wp2
        go_round
        case rel => exact ⟨k + 1, by omega, by go_num, HN.out⟩
        case measure => simp [intOf]; omega
    · obtain rfl : k = n := by omega
      go_wp2
      go_ret
      exact ⟨ret_boolC (by have h1 := HH.out; have h2 := HL.out; rw [h2, List.take_length] at h1; exact h1.symm.trans HC.out), rfl⟩
  
set_option maxHeartbeats 1000000 in
theorem lwNumsC_same (a a' : Option Addr) (n cap cap' : Nat) (zs : List Int) (w : World) (h : CellsAt w a (n * 1) (icells zs)) (h' : CellsAt w a' (n * 1) (icells zs)) (hn : n ≤ 4194304) :
    Calls Try.prog 12 #[.slice a n cap, .slice a' n cap'] w fun e w' => e = .returned (.bool true) ∧ Below w.heap.size w w' := by
  have hnn : ((n : Int) != n) = false := by simp
  go_enter Try.func12, Try.ntmps12
  go_wp2
  go_loopw [5] (fun i wr => ∃ k : Nat, k ≤ n ∧ i = .int .i64 k ∧ Below w.heap.size w wr) (fun i _ => n - (intOf i).toNat)
  case atStart => exact ⟨0, Nat.zero_le _, rfl, Below.refl _ _⟩
  case round =>
    obtain ⟨k, hk, rfl, hB⟩ := hrel
    by_cases hlt : k < n
    · obtain ⟨b, off, rfl, hc0⟩ := (h.below hB).int hlt
      obtain ⟨b', off', rfl, hd0⟩ := (h'.below hB).int hlt
      generalize zs.getD k 0 = r at *
      have hbl := lt_of_cell hc0
      have hbl' := lt_of_cell hd0
      have hrr : (r != r) = false := by simp
      go_wp2
      go_quiet (fail)
      go_wp2
      go_roundw
      case rel => exact ⟨k + 1, by omega, by go_num, hB.trans ⟨rfl, rfl, rfl, Nat.le_refl _, fun _ _ => rfl⟩⟩
      case measure => simp [intOf]; omega
    · obtain rfl : k = n := by omega
      go_wp2
      go_ret
      exact ⟨rfl, hB⟩

/-- Edges and a transaction that are drawn. -/
def DrwC (w : World) (e : Ending) (w' : World) : Prop :=
  ∃ g m c es t, e = .returned (.tuple #[.slice (some ⟨g, 0, none⟩) m c, .int .i64 t]) ∧ m ≤ 1048576 ∧ CellsAt w' (some ⟨g, 0, none⟩) (m * 2) (hcells es) ∧ w.heap.size ≤ g ∧ Below w.heap.size w w'
theorem l7With_any (a : Option Addr) (n cap : Nat) (zs : List Int) (w : World) (h : CellsAt w a n (bts zs)) (hb : IsB zs) (hn : n ≤ 1048580) :
    Calls Try.prog 13 #[.slice a n cap] w fun e w' => DrwC w e w' := by
  have HB := hid hb
  clear hb
  obtain ⟨S, hS⟩ : ∃ S, w.heap.size = S := ⟨_, rfl⟩
  go_enter Try.func13, Try.ntmps13
  go_wp2_with fail
  refine (source_any a n cap zs w h).mono ?_
  rintro e w1 ⟨rfl, s1, b1⟩
  rw [hS] at s1 b1 ⊢
  have ls1 := s1.lt
  have HD := l7Draw_any S a n cap zs w1 s1 HB.out hn
  unfold DrwE at HD
  go_wp2_with fail
  refine HD.mono ?_
  rintro e w2 ⟨g, m, c, es, d, rfl, hm, o2, hd, s2, G2⟩
  have b2 := below_drewC b1 G2 (Nat.le_refl _) (by omega)
  clear HD G2 s1 b1
  go_wp2_with fail
  refine (next_any 5 S a n cap d zs _ s2 HB.out hn (by omega) (by decide) (by decide)).mono ?_
  rintro e w3 ⟨⟨x, x0, x5, rfl⟩, s3, g3⟩
  have o3 := own_drewC o2 g3 ls1
  have ls2 := s2.lt
  have b3 := below_drewC b2 g3 (Nat.le_refl _) (by omega)
  have ls3 := s3.lt
  clear g3 s2 b2 o2
  go_wp2_with fail
  refine (pick_any w3.heap.size 5 [1 + x, 1, 2, 0, 1000] S a n cap (d + 1) zs _ s3.new HB.out hn (by omega) (heap_alloc_new w3 _) (by omega) rfl (by decide) (by decide)).mono ?_
  rintro e w4 ⟨⟨y, _, rfl⟩, s4, g4⟩
  have o4 := own_drewC (o3.alloc (.cells #[.int .i64 (1 + x), .int .i64 1, .int .i64 2, .int .i64 0, .int .i64 1000] 2)) g4 ls1
  have b4 := below_drewC (b3.alloc (by omega) (.cells #[.int .i64 (1 + x), .int .i64 1, .int .i64 2, .int .i64 0, .int .i64 1000] 2)) g4 (Nat.le_refl _) (by simp; omega)
  have hgS : S ≤ g := by have := (owns_lt o4 g rfl).1; omega
  go_wp2
  refine bodyPost_ret (v := .tuple #[.slice (some ⟨g, 0, none⟩) m c, .int .i64 y]) (by simp [results, Try.results13, go_sem]) rfl ⟨g, m, c, es, y, rfl, hm, owns_cells o4, by omega, ?_⟩
  rw [hS]
  exact b4
theorem drawCycle_any (a : Option Addr) (n cap : Nat) (zs : List Int) (w : World) (h : CellsAt w a n (bts zs)) (hb : IsB zs) (hn : n ≤ 1048580) :
    Calls Try.prog 5 #[.slice a n cap] w fun e w' => DrwC w e w' := by
  go_enter Try.func5, Try.ntmps5
  go_wp2_with fail
  refine (l7With_any a n cap zs w h hb hn).mono ?_
  rintro e w2 ⟨g, m, c, es, t, rfl, hm, hc, hg, b2⟩
  go_wp2
  exact bodyPost_ret (v := .tuple #[.slice (some ⟨g, 0, none⟩) m c, .int .i64 t]) (by simp [results, Try.results5, go_sem]) rfl ⟨g, m, c, es, t, rfl, hm, hc, hg, b2⟩
end Go.Proofs.Ytmolddlmjojceaa
