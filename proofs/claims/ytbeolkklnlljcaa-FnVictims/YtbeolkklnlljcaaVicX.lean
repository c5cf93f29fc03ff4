/- Who gives way: greatestOfBoth and VictimOf of the program and of the model. -/
import Derived.Test.YtbeolkklnlljcaaVicW
namespace Go.Proofs.Ytbeolkklnlljcaa
open Go.RowKit Go.Maps

theorem Try.zeroUnit (w : World) : (zeroValue 162).run Try.prog w = .ok (.agg #[]) w := by kernel_rfl
/-- What the set of the circle holds. -/
structure MbM (cyc : List Int) (D : DataW Unit) (k : Nat) : Prop where
  has : ∀ t, Maps.has D (kk t) = (cyc.take k).contains t
theorem MbM.empty (cyc : List Int) : MbM cyc (.map []) 0 := ⟨fun _ => rfl⟩
theorem MbM.put {cyc : List Int} {D : DataW Unit} {k : Nat} (h : MbM cyc D k) (hk : k < cyc.length) (hD : Tidy D) (d : DataW Unit) : MbM cyc (D.put (kk (cyc.getD k 0)) d) (k + 1) := by
  refine ⟨fun t => ?_⟩
  rw [Ch.has_snocI hk]
  by_cases ht : cyc.getD k 0 = t
  · rw [ht, has_put_same hD.isMap (kk_isKey _)]; simp
  · rw [has_put_other (kk_ne (fun h => ht h.symm)), h.has]
    have : (cyc.getD k 0 == t) = false := by simpa using ht
    rw [this]; simp

theorem Ch.both_snoc {cyc sys : List Int} {k : Nat} (hk : k < sys.length) : Ch.both cyc (sys.take (k + 1)) = if cyc.contains (sys.getD k 0) then max (Ch.both cyc (sys.take k)) (sys.getD k 0) else Ch.both cyc (sys.take k) := by
  unfold Ch.both
  rw [Ch.take_snoc sys 0 k hk, List.filter_append]
  cases hc : cyc.contains (sys.getD k 0)
  · rw [List.filter_cons_of_neg (by rw [hc]; simp)]; simp
  · rw [List.filter_cons_of_pos hc, List.filter_nil, Ch.maxL_snoc]; rfl
theorem Ch.txn_at {cyc : List Int} (h : ∀ v ∈ cyc, Ch.inB v 1 999 = true) {k : Nat} (hk : k < cyc.length) : 1 ≤ cyc.getD k 0 ∧ cyc.getD k 0 ≤ 999 :=
  (Ch.inB_iff _ _ _).1 (h _ (by simp [List.getD, hk]))

set_option maxHeartbeats 2000000 in
theorem great_any (a a2 : Option Addr) (n cap n2 cap2 : Nat) (cyc sys : List Int) (w : World) (h : CellsAt w a (n * 1) (icells cyc)) (h2 : CellsAt w a2 (n2 * 1) (icells sys)) (hn : n ≤ 1048576) (hn2 : n2 ≤ 1048576) (hc : ∀ v ∈ cyc, Ch.inB v 1 999 = true) (hw2 : IsW sys) :
    Calls Try.prog 99 #[.slice a n cap, .slice a2 n2 cap2] w fun e w' => e = .returned (.int .i64 (Ch.both cyc sys)) ∧ Below w.heap.size w w' := by
  have HL := h.ilen
  have HL2 := h2.ilen
  have HC := hid hc
  have HW := hid hw2
  have hmm := @run_makeMap Try.prog
  have hmade := World.ownsMap_made (H := Unit) w Try.prog 2 unitElem
  clear hc hw2
  go_enter Try.func99, Try.ntmps99
  go_wp2
  go_loopw [16] (fun i wr => ∃ (k : Nat) (D : DataW Unit), k ≤ n ∧ i = .int .i64 k ∧ wr.ownsMap Try.prog 2 unitElem w.heap.size k D ∧ MbM cyc D k ∧ w.heap.size < wr.heap.size ∧ Below w.heap.size w wr) (fun i _ => n - (intOf i).toNat)
  case atStart => exact ⟨0, _, Nat.zero_le _, rfl, hmade, MbM.empty cyc, by simp, (Below.refl _ _).alloc (Nat.le_refl _) _⟩
  case round =>
    obtain ⟨k, D, hk, rfl, own, hP, hsz, hB⟩ := hrel
    by_cases hlt : k < n
    · have hkl : k < cyc.length := by have := HL.out; omega
      have HP1 := hid (hP.put hkl (own.tidy Try.keyed) (.agg []))
      have HM := hid (Ch.txn_at HC.out hkl)
      obtain ⟨b1, o1, rfl, q0⟩ := (h.below hB).int hlt
      have hbl1 := lt_of_cell q0
      generalize cyc.getD k 0 = z at *
      have hkey := kk_key (key := z) HM.out.1 HM.out.2
      clear hmade hmm
      go_wp2_with (at_mapUpdate; go_must (refine wpList_mapUpdate_own _ rfl _ _ _ 161 rfl 2 162 Try.keyed Try.underlying161 unitElem w.heap.size k D rfl own ?_ _ _ _ rfl rfl hkey _ [] unitElem_mk ?_; (focus (unfold maxLen; omega)); intro w1 own1 gr1))
      go_roundw
      case rel =>
        refine ⟨k + 1, _, by omega, by go_num, own1, HP1.out, Nat.lt_of_lt_of_le hsz gr1.size, ?_⟩
        exact hB.grown gr1 hB.size (fun j hj => by cases hj; exact Nat.le_refl _)
      case measure => simp [intOf]; omega
    · obtain rfl : k = n := by omega
      clear hmade hmm
      have HAS : Hid (∀ t, Maps.has D (kk t) = cyc.contains t) := by
        intro t
        have := hP.has t
        rw [HL.out, List.take_length] at this
        exact this
      clear hP
      go_wp2
      go_loopw [8, 26] (fun q i wx => ∃ (j : Nat) (m : Int), j ≤ n2 ∧ i = .int .i64 j ∧ q = .int .i64 m ∧ Hid (Ch.both cyc (sys.take j) = m) ∧ Below wr.heap.size wr wx) (fun _ i _ => n2 - (intOf i).toNat)
      case atStart => exact ⟨0, 0, Nat.zero_le _, rfl, rfl, rfl, Below.refl _ _⟩
      case round =>
        obtain ⟨j, m, hj, rfl, rfl, HH, hX⟩ := hrel
        have hBX := hB.trans (hX.mono hB.size)
        by_cases hlt2 : j < n2
        · have hjl : j < sys.length := by have := HL2.out; omega
          have HN := hid (Ch.both_snoc (cyc := cyc) hjl)
          rw [HH.out] at HN
          have HM := hid (HW.out.at hjl)
          have HA := hid (HAS.out (sys.getD j 0))
          obtain ⟨b1, o1, rfl, q0⟩ := (h2.below hBX).int hlt2
          have hbl1 := lt_of_cell q0
          generalize sys.getD j 0 = z at *
          have hkey := kk_keyW (key := z) HM.out
          have ownX := own.kept (gr_below hX none) (by simp)
          generalize cyc.contains z = c at *
          cases c
          · have e1 : Hid (Ch.both cyc (sys.take (j + 1)) = m) := HN.out
            clear HN HH
            go_wp2_with (at_lookup; go_must (refine wpList_lookup_own_unit _ rfl _ _ 161 rfl 2 162 Try.keyed Try.underlying161 (Try.zeroUnit _) w.heap.size k D rfl ownX _ _ rfl hkey ?_; rw [HA.out]))
            go_roundw
            case rel => exact ⟨j + 1, m, by omega, by go_num, rfl, e1.out, hX.alloc hX.size _⟩
            case measure => simp [intOf]; omega
          · by_cases hg : m < z
            · have e1 : Hid (Ch.both cyc (sys.take (j + 1)) = z) := by have := HN.out; show _ = _; rw [this, if_pos rfl]; omega
              have e2 : max m z = z := by omega
              clear HN HH
              go_wp2_with (at_lookup; go_must (refine wpList_lookup_own_unit _ rfl _ _ 161 rfl 2 162 Try.keyed Try.underlying161 (Try.zeroUnit _) w.heap.size k D rfl ownX _ _ rfl hkey ?_; rw [HA.out]))
              go_roundw
              case rel => exact ⟨j + 1, z, by omega, by go_num, by go_num, e1.out, hX.alloc hX.size _⟩
              case measure => simp [intOf]; omega
            · have e1 : Hid (Ch.both cyc (sys.take (j + 1)) = m) := by have := HN.out; show _ = _; rw [this, if_pos rfl]; omega
              have e2 : max m z = m := by omega
              clear HN HH
              go_wp2_with (at_lookup; go_must (refine wpList_lookup_own_unit _ rfl _ _ 161 rfl 2 162 Try.keyed Try.underlying161 (Try.zeroUnit _) w.heap.size k D rfl ownX _ _ rfl hkey ?_; rw [HA.out]))
              go_roundw
              case rel => exact ⟨j + 1, m, by omega, by go_num, by go_num, e1.out, hX.alloc hX.size _⟩
              case measure => simp [intOf]; omega
        · obtain rfl : j = n2 := by omega
          have HE : Hid (Ch.both cyc sys = m) := by have h1 := HH.out; have h2 := HL2.out; rw [h2, List.take_length] at h1; exact h1
          go_wp2
          go_ret
          exact ⟨ret_int HE.out.symm, hBX⟩
end Go.Proofs.Ytbeolkklnlljcaa
