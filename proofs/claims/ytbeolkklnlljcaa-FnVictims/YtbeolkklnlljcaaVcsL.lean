/- The law FnVictims. -/
import Derived.Test.YtbeolkklnlljcaaDrawV
import Derived.Deep.DeepCutAuto
namespace Go.Proofs.Ytbeolkklnlljcaa
open Go.RowKit

/-- What the law asks of who gives way. -/
theorem Ch.vic_tells {cyc sys : List Int} {v : Int} (h : Ch.victimR cyc sys = (0, v)) :
    (∀ c ∈ cyc, v < c → (sys.contains c == sys.contains v) = false) ∧ cyc.contains v = true ∧ cyc.any (fun c => sys.contains c) = sys.contains v := by
  unfold Ch.victimR at h
  by_cases h0 : cyc.length = 0
  · rw [if_pos h0] at h; simp at h
  rw [if_neg h0] at h
  by_cases ha : cyc.any (fun v => !Ch.inB v 1 999) = true
  · rw [if_pos ha] at h; simp at h
  rw [if_neg ha] at h
  have hc : ∀ v ∈ cyc, 1 ≤ v ∧ v ≤ 999 := by
    intro v hv
    refine (Ch.inB_iff v 1 999).1 ?_
    cases hb : Ch.inB v 1 999
    · exact absurd (List.any_eq_true.2 ⟨v, hv, by rw [hb]; rfl⟩) ha
    · rfl
  have hv : v = Ch.victim cyc sys := by simpa using h.symm
  unfold Ch.victim at hv
  rw [Ch.both_is] at hv
  cases hs : cyc.any (fun c => sys.contains c)
  · have hz : cyc.filter (fun c => sys.contains c) = [] := by
      rw [List.filter_eq_nil_iff]
      intro x hx hh
      rw [List.any_eq_false] at hs
      exact absurd hh (by simpa using hs x hx)
    rw [hz] at hv
    have hv : v = Ch.maxL cyc := hv
    have hmem : v ∈ cyc := by
      rcases Ch.maxL_mem cyc with e | e
      · exfalso
        have hp : 0 < cyc.length := by omega
        have h1 := Ch.maxL_le (List.getElem_mem hp)
        have h2 := (hc _ (List.getElem_mem hp)).1
        omega
      · rw [hv]; exact e
    have hns : sys.contains v = false := by
      rw [List.any_eq_false] at hs
      simpa using hs v hmem
    refine ⟨fun c hcm hlt => ?_, List.contains_iff_mem.2 hmem, hns.symm⟩
    have := Ch.maxL_le hcm
    omega
  · obtain ⟨x, hx, hxs⟩ := List.any_eq_true.1 hs
    have hm : x ∈ cyc.filter (fun v => sys.contains v) := List.mem_filter.2 ⟨hx, hxs⟩
    have h1 := Ch.maxL_le hm
    have h2 := (hc x hx).1
    rcases Ch.maxL_mem (cyc.filter fun v => sys.contains v) with e | e
    · omega
    · have e2 := List.mem_filter.1 e
      rw [if_pos ((Ch.inB_iff _ _ _).2 ⟨by omega, (hc _ e2.1).2⟩)] at hv
      rw [← hv] at e2 h1
      refine ⟨fun c hcm hlt => ?_, List.contains_iff_mem.2 e2.1, e2.2.symm⟩
      cases hcs : sys.contains c
      · rw [e2.2]; rfl
      · have := Ch.maxL_le (List.mem_filter.2 ⟨hcm, hcs⟩)
        rw [← hv] at this
        omega
theorem Ch.some_snoc {cyc sys : List Int} {k : Nat} (hk : k < cyc.length) : (cyc.take (k + 1)).any (fun c => sys.contains c) = ((cyc.take k).any (fun c => sys.contains c) || sys.contains (cyc.getD k 0)) := by
  rw [Ch.take_snoc cyc 0 k hk, List.any_append]
  simp only [List.any_cons, List.any_nil, Bool.or_false]

set_option linter.unusedSimpArgs false in
set_option maxHeartbeats 8000000 in
theorem lawVics_any (a : Option Addr) (n cap : Nat) (zs : List Int) (w : World) (h : CellsAt w a n (bts zs)) (hb : IsB zs) :
    Calls Try.prog 7 #[.slice a n cap] w fun e w' => e = .returned (.bool true) ∧ Below w.heap.size w w' := by
  by_cases hbig : 1048576 < n
  · have hd : decide ((1048576 : Int) < (n : Int)) = true := by simp; omega
    go_enter Try.func7, Try.ntmps7
    go_wp2_with fail
    refine (big_any a n cap _).mono ?_
    rintro e w0 ⟨rfl, hw0⟩
    obtain rfl := hw0.symm
    rw [hd]
    go_wp2
    go_ret
    exact ⟨rfl, Below.refl _ _⟩
  have hn : n ≤ 1048576 := by omega
  have hd : decide ((1048576 : Int) < (n : Int)) = false := by simp; omega
  clear hbig
  go_enter Try.func7, Try.ntmps7
  go_wp2_with fail
  refine (big_any a n cap _).mono ?_
  rintro e w0 ⟨rfl, hw0⟩
  obtain rfl := hw0.symm
  rw [hd]
  go_wp2_with fail
  refine (drawVictim_any a n cap zs _ h hb (by omega)).mono ?_
  rintro e w1 ⟨a1, m1, c1, cyc, a2, m2, c2, sys, rfl, hm1, hm2, hcyc, hsys, hw, b1⟩
  have SI := fun W hW hW2 => specVictim_any a1 a2 m1 c1 m2 c2 cyc sys W hW hW2 (by omega) (by omega)
  have II := fun W hW hW2 => implVictim_any a1 a2 m1 c1 m2 c2 cyc sys W hW hW2 (by omega) (by omega) hw
  have HT := hid (fun v (e : Ch.victimR cyc sys = (0, v)) => Ch.vic_tells e)
  obtain ⟨c, v, HV⟩ : ∃ c v, Hid (Ch.victimR cyc sys = (c, v)) := ⟨_, _, rfl⟩
  rw [HV.out] at SI II
  simp only at SI II
  have HL := hcyc.ilen
  clear hw hd
  go_wp2_with fail
  refine (II _ hcyc hsys).mono ?_
  rintro e w2 ⟨rfl, b2⟩
  have hcyc := hcyc.below b2
  have hsys := hsys.below b2
  have b2 := b1.trans (b2.mono b1.size)
  have kX : Below w2.heap.size w2 (w2.alloc (.cells #[.int .i64 c, .int .i64 v] 32)) := (Below.refl _ _).alloc (Nat.le_refl _) _
  have hX := heap_alloc_new w2 (.cells #[.int .i64 c, .int .i64 v] 32)
  have hcyc := hcyc.below kX
  have hsys := hsys.below kX
  have b3 := b2.trans (kX.mono b2.size)
  have lx : w2.heap.size < (w2.alloc (.cells #[.int .i64 c, .int .i64 v] 32)).heap.size := by simp
  clear b1 b2 II kX
  obtain ⟨x0, x1, f0, f1⟩ := row2 hX
  by_cases h0 : c = 0
  · subst h0
    obtain ⟨T1, T2, T3⟩ := HT.out v HV.out
    replace T1 := hid T1
    replace T2 := hid T2
    replace T3 := hid T3
    clear HT HV SI
    have IS := fun z W hW => among_any 34 (.inr rfl) a2 m2 c2 z sys W hW (by omega)
    have IC := fun z W hW => among_any 34 (.inr rfl) a1 m1 c1 z cyc W hW (by omega)
    obtain ⟨bv, HBV⟩ : ∃ bv, Hid (sys.contains v = bv) := ⟨_, rfl⟩
    have ISv := IS v
    rw [HBV.out] at ISv T1 T3
    have ICv := IC v
    rw [T2.out] at ICv
    go_wp2
    generalize w2.alloc (.cells #[.int .i64 0, .int .i64 v] 32) = U at *
    go_loopw [6, 7] (fun q i wr => ∃ (k : Nat) (y : Bool), k ≤ m1 ∧ i = .int .i64 k ∧ q = .bool y ∧ Hid ((cyc.take k).any (fun c => sys.contains c) = y) ∧ Below U.heap.size U wr) (fun _ i _ => m1 - (intOf i).toNat)
    case atStart => exact ⟨0, false, Nat.zero_le _, rfl, rfl, rfl, Below.refl _ _⟩
    case round =>
      obtain ⟨k, y, hk, rfl, rfl, HH, hB⟩ := hrel
      have y0 := keep_cell hB x0
      have y1 := keep_cell hB x1
      have ly := lt_of_cell y0
      by_cases hlt : k < m1
      · have hkl : k < cyc.length := by have := HL.out; omega
        have HN := hid (Ch.some_snoc (sys := sys) hkl)
        rw [HH.out] at HN
        have HM := hid (T1.out (cyc.getD k 0) (by simp [List.getD, hkl]))
        obtain ⟨b, off, rfl, q0⟩ := (hcyc.below hB).int hlt
        have hbl := lt_of_cell q0
        generalize cyc.getD k 0 = z at *
        have ISz := IS z
        obtain ⟨bz, HBZ⟩ : ∃ bz, Hid (sys.contains z = bz) := ⟨_, rfl⟩
        rw [HBZ.out] at ISz HN HM
        clear HH
        cases y
        · rw [Bool.false_or] at HN
          by_cases hg : v < z
          · have hdz := HM.out hg
            have hdg : decide (v < z) = true := by simpa using hg
            clear HM hg
            go_wp2_with fail
            refine (ISz _ (hsys.below hB)).mono ?_
            rintro e w4 ⟨rfl, hw4⟩
            obtain rfl := hw4.symm
            go_wp2_with fail
            refine wp_region_noPanic ?_
            refine wp_region_held_drew (S := fun W' => W'.cell? ⟨b, off + k, none⟩ = some (.int .i64 z) ∧ W'.cell? ⟨w2.heap.size, 1, none⟩ = some (.int .i64 v) ∧ Below U.heap.size U W') (by kernel_rfl) (⟨q0, y1, hB.drew⟩) (fun hH => ?_)
            refine hTake (i := 0) (v := ?_) rfl (by kernel_rfl) (by kernel_rfl) (by kernel_rfl) (by rfl) ?_ hH ?_
            rotate_left
            · intro W hW; (try dsimp only at hW); go_simp <;> with_reducible rfl
            simp only [Act.put, List.setIfInBounds_toArray, List.set_cons_zero, List.set_cons_succ]
            refine hTake (i := 1) (v := ?_) rfl (by kernel_rfl) (by kernel_rfl) (by kernel_rfl) (by rfl) ?_ hH ?_
            rotate_left
            · intro W hW; (try dsimp only at hW); go_simp <;> with_reducible rfl
            simp only [Act.put, List.setIfInBounds_toArray, List.set_cons_zero, List.set_cons_succ]
            refine hTake (i := 2) (v := ?_) rfl (by kernel_rfl) (by kernel_rfl) (by kernel_rfl) (by rfl) ?_ hH ?_
            rotate_left
            · intro W hW; (try dsimp only at hW); go_simp <;> with_reducible rfl
            simp only [Act.put, List.setIfInBounds_toArray, List.set_cons_zero, List.set_cons_succ]
            refine hTake (i := 3) (v := ?_) rfl (by kernel_rfl) (by kernel_rfl) (by kernel_rfl) (by rfl) ?_ hH ?_
            rotate_left
            · intro W hW; (try dsimp only at hW); go_simp <;> with_reducible rfl
            simp only [Act.put, List.setIfInBounds_toArray, List.set_cons_zero, List.set_cons_succ]
            refine hTake (i := 4) (v := ?_) rfl (by kernel_rfl) (by kernel_rfl) (by kernel_rfl) (by rfl) ?_ hH ?_
            rotate_left
            · intro W hW; (try dsimp only at hW); go_simp <;> with_reducible rfl
            simp only [Act.put, List.setIfInBounds_toArray, List.set_cons_zero, List.set_cons_succ]
            refine hTake (i := 5) (v := ?_) rfl (by kernel_rfl) (by kernel_rfl) (by kernel_rfl) (by rfl) ?_ hH ?_
            rotate_left
            · intro W hW; (try dsimp only at hW); go_simp <;> with_reducible rfl
            simp only [Act.put, List.setIfInBounds_toArray, List.set_cons_zero, List.set_cons_succ]
            refine hTake (i := 6) (v := ?_) rfl (by kernel_rfl) (by kernel_rfl) (by kernel_rfl) (by rfl) ?_ hH ?_
            rotate_left
            · intro W hW; (try dsimp only at hW); go_simp <;> with_reducible rfl
            simp only [Act.put, List.setIfInBounds_toArray, List.set_cons_zero, List.set_cons_succ]
            refine hTake (i := 7) (v := ?_) rfl (by kernel_rfl) (by kernel_rfl) (by kernel_rfl) (by rfl) ?_ hH ?_
            rotate_left
            · intro W hW; (try dsimp only at hW); go_simp <;> with_reducible rfl
            simp only [Act.put, List.setIfInBounds_toArray, List.set_cons_zero, List.set_cons_succ]
            refine hTake (i := 8) (v := ?_) rfl (by kernel_rfl) (by kernel_rfl) (by kernel_rfl) (by rfl) ?_ hH ?_
            rotate_left
            · intro W hW; (try dsimp only at hW); go_simp <;> with_reducible rfl
            simp only [Act.put, List.setIfInBounds_toArray, List.set_cons_zero, List.set_cons_succ]
            refine hTake (i := 9) (v := ?_) rfl (by kernel_rfl) (by kernel_rfl) (by kernel_rfl) (by rfl) ?_ hH ?_
            rotate_left
            · intro W hW; (try dsimp only at hW); go_simp <;> with_reducible rfl
            simp only [Act.put, List.setIfInBounds_toArray, List.set_cons_zero, List.set_cons_succ]
            refine hTake (i := 10) (v := ?_) rfl (by kernel_rfl) (by kernel_rfl) (by kernel_rfl) (by rfl) ?_ hH ?_
            rotate_left
            · intro W hW; (try dsimp only at hW); go_simp <;> with_reducible rfl
            simp only [Act.put, List.setIfInBounds_toArray, List.set_cons_zero, List.set_cons_succ]
            refine hTake (i := 11) (v := ?_) rfl (by kernel_rfl) (by kernel_rfl) (by kernel_rfl) (by rfl) ?_ hH ?_
            rotate_left
            · intro W hW; (try dsimp only at hW); go_simp <;> with_reducible rfl
            simp only [Act.put, List.setIfInBounds_toArray, List.set_cons_zero, List.set_cons_succ]
            refine hTake (i := 12) (v := ?_) rfl (by kernel_rfl) (by kernel_rfl) (by kernel_rfl) (by rfl) ?_ hH ?_
            rotate_left
            · intro W hW; (try dsimp only at hW); go_simp <;> with_reducible rfl
            simp only [Act.put, List.setIfInBounds_toArray, List.set_cons_zero, List.set_cons_succ]
            refine hTake (i := 14) (v := ?_) rfl (by kernel_rfl) (by kernel_rfl) (by kernel_rfl) (by rfl) ?_ hH ?_
            rotate_left
            · intro W hW; (try dsimp only at hW); go_simp <;> with_reducible rfl
            simp only [Act.put, List.setIfInBounds_toArray, List.set_cons_zero, List.set_cons_succ]
            refine hTake (i := 15) (v := ?_) rfl (by kernel_rfl) (by kernel_rfl) (by kernel_rfl) (by rfl) ?_ hH ?_
            rotate_left
            · intro W hW; (try dsimp only at hW); go_simp <;> with_reducible rfl
            simp only [Act.put, List.setIfInBounds_toArray, List.set_cons_zero, List.set_cons_succ]
            refine hTake (i := 16) (v := ?_) rfl (by kernel_rfl) (by kernel_rfl) (by kernel_rfl) (by rfl) ?_ hH ?_
            rotate_left
            · intro W hW; (try dsimp only at hW); go_simp <;> with_reducible rfl
            simp only [Act.put, List.setIfInBounds_toArray, List.set_cons_zero, List.set_cons_succ]
            refine wpAnyH_ready (rs := [13]) (by kernel_rfl) (by simp) ?_
            refine AllReadyH.cons rfl (fun K hK => ?_) AllReadyH.nil
            go_simp
            refine (ISz _ (hsys.below hH.2.2)).mono ?_
            rintro e w4 ⟨rfl, rfl⟩
            go_wp2_with fail
            refine hK.out _ _ ?_ (fun hH => ?_)
            · exact hH
            clear hK K
            refine wpAnyH_ready (rs := [17]) (by kernel_rfl) (by simp) ?_
            refine AllReadyH.cons rfl (fun K hK => ?_) AllReadyH.nil
            go_simp
            refine (ISv _ (hsys.below hH.2.2)).mono ?_
            rintro e w4 ⟨rfl, rfl⟩
            go_wp2_with fail
            refine hK.out _ _ ?_ (fun hH => ?_)
            · exact hH
            clear hK K
            refine hTake (i := 18) (v := ?_) rfl (by kernel_rfl) (by kernel_rfl) (by kernel_rfl) (by rfl) ?_ hH ?_
            rotate_left
            · intro W hW; (try dsimp only at hW); go_simp <;> with_reducible rfl
            simp only [Act.put, List.setIfInBounds_toArray, List.set_cons_zero, List.set_cons_succ]
            refine hTake (i := 19) (v := ?_) rfl (by kernel_rfl) (by kernel_rfl) (by kernel_rfl) (by rfl) ?_ hH ?_
            rotate_left
            · intro W hW; (try dsimp only at hW); go_simp <;> with_reducible rfl
            simp only [Act.put, List.setIfInBounds_toArray, List.set_cons_zero, List.set_cons_succ]
            refine wpAnyH_done (by kernel_rfl) ?_ _
            refine NoPanic.normal ?_
            go_wp2
            go_roundw
            case rel => exact ⟨k + 1, bz, by omega, by go_num, rfl, HN.out, hH.2.2⟩
            case measure => simp [intOf]; omega
          · have hdg : decide (v < z) = false := by simpa using hg
            clear HM
            go_wp2_with fail
            refine (ISz _ (hsys.below hB)).mono ?_
            rintro e w4 ⟨rfl, hw4⟩
            obtain rfl := hw4.symm
            go_wp2_with fail
            refine wp_region_noPanic ?_
            refine wp_region_held_drew (S := fun W' => W'.cell? ⟨b, off + k, none⟩ = some (.int .i64 z) ∧ W'.cell? ⟨w2.heap.size, 1, none⟩ = some (.int .i64 v) ∧ Below U.heap.size U W') (by kernel_rfl) (⟨q0, y1, hB.drew⟩) (fun hH => ?_)
            refine hTake (i := 0) (v := ?_) rfl (by kernel_rfl) (by kernel_rfl) (by kernel_rfl) (by rfl) ?_ hH ?_
            rotate_left
            · intro W hW; (try dsimp only at hW); go_simp <;> with_reducible rfl
            simp only [Act.put, List.setIfInBounds_toArray, List.set_cons_zero, List.set_cons_succ]
            refine hTake (i := 1) (v := ?_) rfl (by kernel_rfl) (by kernel_rfl) (by kernel_rfl) (by rfl) ?_ hH ?_
            rotate_left
            · intro W hW; (try dsimp only at hW); go_simp <;> with_reducible rfl
            simp only [Act.put, List.setIfInBounds_toArray, List.set_cons_zero, List.set_cons_succ]
            refine hTake (i := 2) (v := ?_) rfl (by kernel_rfl) (by kernel_rfl) (by kernel_rfl) (by rfl) ?_ hH ?_
            rotate_left
            · intro W hW; (try dsimp only at hW); go_simp <;> with_reducible rfl
            simp only [Act.put, List.setIfInBounds_toArray, List.set_cons_zero, List.set_cons_succ]
            refine hTake (i := 3) (v := ?_) rfl (by kernel_rfl) (by kernel_rfl) (by kernel_rfl) (by rfl) ?_ hH ?_
            rotate_left
            · intro W hW; (try dsimp only at hW); go_simp <;> with_reducible rfl
            simp only [Act.put, List.setIfInBounds_toArray, List.set_cons_zero, List.set_cons_succ]
            refine hTake (i := 4) (v := ?_) rfl (by kernel_rfl) (by kernel_rfl) (by kernel_rfl) (by rfl) ?_ hH ?_
            rotate_left
            · intro W hW; (try dsimp only at hW); go_simp <;> with_reducible rfl
            simp only [Act.put, List.setIfInBounds_toArray, List.set_cons_zero, List.set_cons_succ]
            refine hTake (i := 5) (v := ?_) rfl (by kernel_rfl) (by kernel_rfl) (by kernel_rfl) (by rfl) ?_ hH ?_
            rotate_left
            · intro W hW; (try dsimp only at hW); go_simp <;> with_reducible rfl
            simp only [Act.put, List.setIfInBounds_toArray, List.set_cons_zero, List.set_cons_succ]
            refine hTake (i := 6) (v := ?_) rfl (by kernel_rfl) (by kernel_rfl) (by kernel_rfl) (by rfl) ?_ hH ?_
            rotate_left
            · intro W hW; (try dsimp only at hW); go_simp <;> with_reducible rfl
            simp only [Act.put, List.setIfInBounds_toArray, List.set_cons_zero, List.set_cons_succ]
            refine hTake (i := 7) (v := ?_) rfl (by kernel_rfl) (by kernel_rfl) (by kernel_rfl) (by rfl) ?_ hH ?_
            rotate_left
            · intro W hW; (try dsimp only at hW); go_simp <;> with_reducible rfl
            simp only [Act.put, List.setIfInBounds_toArray, List.set_cons_zero, List.set_cons_succ]
            refine hSkip (i := 8) rfl (by kernel_rfl) (by kernel_rfl) (by kernel_rfl) (by rfl) hH ?_
            simp only [Act.put, List.setIfInBounds_toArray, List.set_cons_zero, List.set_cons_succ]
            refine hSkip (i := 9) rfl (by kernel_rfl) (by kernel_rfl) (by kernel_rfl) (by rfl) hH ?_
            simp only [Act.put, List.setIfInBounds_toArray, List.set_cons_zero, List.set_cons_succ]
            refine hSkip (i := 10) rfl (by kernel_rfl) (by kernel_rfl) (by kernel_rfl) (by rfl) hH ?_
            simp only [Act.put, List.setIfInBounds_toArray, List.set_cons_zero, List.set_cons_succ]
            refine hSkip (i := 11) rfl (by kernel_rfl) (by kernel_rfl) (by kernel_rfl) (by rfl) hH ?_
            simp only [Act.put, List.setIfInBounds_toArray, List.set_cons_zero, List.set_cons_succ]
            refine hSkip (i := 12) rfl (by kernel_rfl) (by kernel_rfl) (by kernel_rfl) (by rfl) hH ?_
            simp only [Act.put, List.setIfInBounds_toArray, List.set_cons_zero, List.set_cons_succ]
            refine hSkip (i := 13) rfl (by kernel_rfl) (by kernel_rfl) (by kernel_rfl) (by rfl) hH ?_
            simp only [Act.put, List.setIfInBounds_toArray, List.set_cons_zero, List.set_cons_succ]
            refine hSkip (i := 14) rfl (by kernel_rfl) (by kernel_rfl) (by kernel_rfl) (by rfl) hH ?_
            simp only [Act.put, List.setIfInBounds_toArray, List.set_cons_zero, List.set_cons_succ]
            refine hSkip (i := 15) rfl (by kernel_rfl) (by kernel_rfl) (by kernel_rfl) (by rfl) hH ?_
            simp only [Act.put, List.setIfInBounds_toArray, List.set_cons_zero, List.set_cons_succ]
            refine hSkip (i := 16) rfl (by kernel_rfl) (by kernel_rfl) (by kernel_rfl) (by rfl) hH ?_
            simp only [Act.put, List.setIfInBounds_toArray, List.set_cons_zero, List.set_cons_succ]
            refine hSkip (i := 17) rfl (by kernel_rfl) (by kernel_rfl) (by kernel_rfl) (by rfl) hH ?_
            simp only [Act.put, List.setIfInBounds_toArray, List.set_cons_zero, List.set_cons_succ]
            refine hSkip (i := 18) rfl (by kernel_rfl) (by kernel_rfl) (by kernel_rfl) (by rfl) hH ?_
            simp only [Act.put, List.setIfInBounds_toArray, List.set_cons_zero, List.set_cons_succ]
            refine hTake (i := 19) (v := ?_) rfl (by kernel_rfl) (by kernel_rfl) (by kernel_rfl) (by rfl) ?_ hH ?_
            rotate_left
            · intro W hW; (try dsimp only at hW); go_simp <;> with_reducible rfl
            simp only [Act.put, List.setIfInBounds_toArray, List.set_cons_zero, List.set_cons_succ]
            refine wpAnyH_done (by kernel_rfl) ?_ _
            refine NoPanic.normal ?_
            go_wp2
            go_roundw
            case rel => exact ⟨k + 1, bz, by omega, by go_num, rfl, HN.out, hH.2.2⟩
            case measure => simp [intOf]; omega
        · rw [Bool.true_or] at HN
          by_cases hg : v < z
          · have hdz := HM.out hg
            have hdg : decide (v < z) = true := by simpa using hg
            clear HM hg
            go_wp2_with fail
            refine wp_region_noPanic ?_
            refine wp_region_held_drew (S := fun W' => W'.cell? ⟨b, off + k, none⟩ = some (.int .i64 z) ∧ W'.cell? ⟨w2.heap.size, 1, none⟩ = some (.int .i64 v) ∧ Below U.heap.size U W') (by kernel_rfl) (⟨q0, y1, hB.drew⟩) (fun hH => ?_)
            refine hTake (i := 0) (v := ?_) rfl (by kernel_rfl) (by kernel_rfl) (by kernel_rfl) (by rfl) ?_ hH ?_
            rotate_left
            · intro W hW; (try dsimp only at hW); go_simp <;> with_reducible rfl
            simp only [Act.put, List.setIfInBounds_toArray, List.set_cons_zero, List.set_cons_succ]
            refine hTake (i := 1) (v := ?_) rfl (by kernel_rfl) (by kernel_rfl) (by kernel_rfl) (by rfl) ?_ hH ?_
            rotate_left
            · intro W hW; (try dsimp only at hW); go_simp <;> with_reducible rfl
            simp only [Act.put, List.setIfInBounds_toArray, List.set_cons_zero, List.set_cons_succ]
            refine hTake (i := 2) (v := ?_) rfl (by kernel_rfl) (by kernel_rfl) (by kernel_rfl) (by rfl) ?_ hH ?_
            rotate_left
            · intro W hW; (try dsimp only at hW); go_simp <;> with_reducible rfl
            simp only [Act.put, List.setIfInBounds_toArray, List.set_cons_zero, List.set_cons_succ]
            refine hTake (i := 3) (v := ?_) rfl (by kernel_rfl) (by kernel_rfl) (by kernel_rfl) (by rfl) ?_ hH ?_
            rotate_left
            · intro W hW; (try dsimp only at hW); go_simp <;> with_reducible rfl
            simp only [Act.put, List.setIfInBounds_toArray, List.set_cons_zero, List.set_cons_succ]
            refine hTake (i := 4) (v := ?_) rfl (by kernel_rfl) (by kernel_rfl) (by kernel_rfl) (by rfl) ?_ hH ?_
            rotate_left
            · intro W hW; (try dsimp only at hW); go_simp <;> with_reducible rfl
            simp only [Act.put, List.setIfInBounds_toArray, List.set_cons_zero, List.set_cons_succ]
            refine hTake (i := 5) (v := ?_) rfl (by kernel_rfl) (by kernel_rfl) (by kernel_rfl) (by rfl) ?_ hH ?_
            rotate_left
            · intro W hW; (try dsimp only at hW); go_simp <;> with_reducible rfl
            simp only [Act.put, List.setIfInBounds_toArray, List.set_cons_zero, List.set_cons_succ]
            refine hTake (i := 6) (v := ?_) rfl (by kernel_rfl) (by kernel_rfl) (by kernel_rfl) (by rfl) ?_ hH ?_
            rotate_left
            · intro W hW; (try dsimp only at hW); go_simp <;> with_reducible rfl
            simp only [Act.put, List.setIfInBounds_toArray, List.set_cons_zero, List.set_cons_succ]
            refine hTake (i := 7) (v := ?_) rfl (by kernel_rfl) (by kernel_rfl) (by kernel_rfl) (by rfl) ?_ hH ?_
            rotate_left
            · intro W hW; (try dsimp only at hW); go_simp <;> with_reducible rfl
            simp only [Act.put, List.setIfInBounds_toArray, List.set_cons_zero, List.set_cons_succ]
            refine hTake (i := 8) (v := ?_) rfl (by kernel_rfl) (by kernel_rfl) (by kernel_rfl) (by rfl) ?_ hH ?_
            rotate_left
            · intro W hW; (try dsimp only at hW); go_simp <;> with_reducible rfl
            simp only [Act.put, List.setIfInBounds_toArray, List.set_cons_zero, List.set_cons_succ]
            refine hTake (i := 9) (v := ?_) rfl (by kernel_rfl) (by kernel_rfl) (by kernel_rfl) (by rfl) ?_ hH ?_
            rotate_left
            · intro W hW; (try dsimp only at hW); go_simp <;> with_reducible rfl
            simp only [Act.put, List.setIfInBounds_toArray, List.set_cons_zero, List.set_cons_succ]
            refine hTake (i := 10) (v := ?_) rfl (by kernel_rfl) (by kernel_rfl) (by kernel_rfl) (by rfl) ?_ hH ?_
            rotate_left
            · intro W hW; (try dsimp only at hW); go_simp <;> with_reducible rfl
            simp only [Act.put, List.setIfInBounds_toArray, List.set_cons_zero, List.set_cons_succ]
            refine hTake (i := 11) (v := ?_) rfl (by kernel_rfl) (by kernel_rfl) (by kernel_rfl) (by rfl) ?_ hH ?_
            rotate_left
            · intro W hW; (try dsimp only at hW); go_simp <;> with_reducible rfl
            simp only [Act.put, List.setIfInBounds_toArray, List.set_cons_zero, List.set_cons_succ]
            refine hTake (i := 12) (v := ?_) rfl (by kernel_rfl) (by kernel_rfl) (by kernel_rfl) (by rfl) ?_ hH ?_
            rotate_left
            · intro W hW; (try dsimp only at hW); go_simp <;> with_reducible rfl
            simp only [Act.put, List.setIfInBounds_toArray, List.set_cons_zero, List.set_cons_succ]
            refine hTake (i := 14) (v := ?_) rfl (by kernel_rfl) (by kernel_rfl) (by kernel_rfl) (by rfl) ?_ hH ?_
            rotate_left
            · intro W hW; (try dsimp only at hW); go_simp <;> with_reducible rfl
            simp only [Act.put, List.setIfInBounds_toArray, List.set_cons_zero, List.set_cons_succ]
            refine hTake (i := 15) (v := ?_) rfl (by kernel_rfl) (by kernel_rfl) (by kernel_rfl) (by rfl) ?_ hH ?_
            rotate_left
            · intro W hW; (try dsimp only at hW); go_simp <;> with_reducible rfl
            simp only [Act.put, List.setIfInBounds_toArray, List.set_cons_zero, List.set_cons_succ]
            refine hTake (i := 16) (v := ?_) rfl (by kernel_rfl) (by kernel_rfl) (by kernel_rfl) (by rfl) ?_ hH ?_
            rotate_left
            · intro W hW; (try dsimp only at hW); go_simp <;> with_reducible rfl
            simp only [Act.put, List.setIfInBounds_toArray, List.set_cons_zero, List.set_cons_succ]
            refine wpAnyH_ready (rs := [13]) (by kernel_rfl) (by simp) ?_
            refine AllReadyH.cons rfl (fun K hK => ?_) AllReadyH.nil
            go_simp
            refine (ISz _ (hsys.below hH.2.2)).mono ?_
            rintro e w4 ⟨rfl, rfl⟩
            go_wp2_with fail
            refine hK.out _ _ ?_ (fun hH => ?_)
            · exact hH
            clear hK K
            refine wpAnyH_ready (rs := [17]) (by kernel_rfl) (by simp) ?_
            refine AllReadyH.cons rfl (fun K hK => ?_) AllReadyH.nil
            go_simp
            refine (ISv _ (hsys.below hH.2.2)).mono ?_
            rintro e w4 ⟨rfl, rfl⟩
            go_wp2_with fail
            refine hK.out _ _ ?_ (fun hH => ?_)
            · exact hH
            clear hK K
            refine hTake (i := 18) (v := ?_) rfl (by kernel_rfl) (by kernel_rfl) (by kernel_rfl) (by rfl) ?_ hH ?_
            rotate_left
            · intro W hW; (try dsimp only at hW); go_simp <;> with_reducible rfl
            simp only [Act.put, List.setIfInBounds_toArray, List.set_cons_zero, List.set_cons_succ]
            refine hTake (i := 19) (v := ?_) rfl (by kernel_rfl) (by kernel_rfl) (by kernel_rfl) (by rfl) ?_ hH ?_
            rotate_left
            · intro W hW; (try dsimp only at hW); go_simp <;> with_reducible rfl
            simp only [Act.put, List.setIfInBounds_toArray, List.set_cons_zero, List.set_cons_succ]
            refine wpAnyH_done (by kernel_rfl) ?_ _
            refine NoPanic.normal ?_
            go_wp2
            go_roundw
            case rel => exact ⟨k + 1, true, by omega, by go_num, rfl, HN.out, hH.2.2⟩
            case measure => simp [intOf]; omega
          · have hdg : decide (v < z) = false := by simpa using hg
            clear HM
            go_wp2_with fail
            refine wp_region_noPanic ?_
            refine wp_region_held_drew (S := fun W' => W'.cell? ⟨b, off + k, none⟩ = some (.int .i64 z) ∧ W'.cell? ⟨w2.heap.size, 1, none⟩ = some (.int .i64 v) ∧ Below U.heap.size U W') (by kernel_rfl) (⟨q0, y1, hB.drew⟩) (fun hH => ?_)
            refine hTake (i := 0) (v := ?_) rfl (by kernel_rfl) (by kernel_rfl) (by kernel_rfl) (by rfl) ?_ hH ?_
            rotate_left
            · intro W hW; (try dsimp only at hW); go_simp <;> with_reducible rfl
            simp only [Act.put, List.setIfInBounds_toArray, List.set_cons_zero, List.set_cons_succ]
            refine hTake (i := 1) (v := ?_) rfl (by kernel_rfl) (by kernel_rfl) (by kernel_rfl) (by rfl) ?_ hH ?_
            rotate_left
            · intro W hW; (try dsimp only at hW); go_simp <;> with_reducible rfl
            simp only [Act.put, List.setIfInBounds_toArray, List.set_cons_zero, List.set_cons_succ]
            refine hTake (i := 2) (v := ?_) rfl (by kernel_rfl) (by kernel_rfl) (by kernel_rfl) (by rfl) ?_ hH ?_
            rotate_left
            · intro W hW; (try dsimp only at hW); go_simp <;> with_reducible rfl
            simp only [Act.put, List.setIfInBounds_toArray, List.set_cons_zero, List.set_cons_succ]
            refine hTake (i := 3) (v := ?_) rfl (by kernel_rfl) (by kernel_rfl) (by kernel_rfl) (by rfl) ?_ hH ?_
            rotate_left
            · intro W hW; (try dsimp only at hW); go_simp <;> with_reducible rfl
            simp only [Act.put, List.setIfInBounds_toArray, List.set_cons_zero, List.set_cons_succ]
            refine hTake (i := 4) (v := ?_) rfl (by kernel_rfl) (by kernel_rfl) (by kernel_rfl) (by rfl) ?_ hH ?_
            rotate_left
            · intro W hW; (try dsimp only at hW); go_simp <;> with_reducible rfl
            simp only [Act.put, List.setIfInBounds_toArray, List.set_cons_zero, List.set_cons_succ]
            refine hTake (i := 5) (v := ?_) rfl (by kernel_rfl) (by kernel_rfl) (by kernel_rfl) (by rfl) ?_ hH ?_
            rotate_left
            · intro W hW; (try dsimp only at hW); go_simp <;> with_reducible rfl
            simp only [Act.put, List.setIfInBounds_toArray, List.set_cons_zero, List.set_cons_succ]
            refine hTake (i := 6) (v := ?_) rfl (by kernel_rfl) (by kernel_rfl) (by kernel_rfl) (by rfl) ?_ hH ?_
            rotate_left
            · intro W hW; (try dsimp only at hW); go_simp <;> with_reducible rfl
            simp only [Act.put, List.setIfInBounds_toArray, List.set_cons_zero, List.set_cons_succ]
            refine hTake (i := 7) (v := ?_) rfl (by kernel_rfl) (by kernel_rfl) (by kernel_rfl) (by rfl) ?_ hH ?_
            rotate_left
            · intro W hW; (try dsimp only at hW); go_simp <;> with_reducible rfl
            simp only [Act.put, List.setIfInBounds_toArray, List.set_cons_zero, List.set_cons_succ]
            refine hSkip (i := 8) rfl (by kernel_rfl) (by kernel_rfl) (by kernel_rfl) (by rfl) hH ?_
            simp only [Act.put, List.setIfInBounds_toArray, List.set_cons_zero, List.set_cons_succ]
            refine hSkip (i := 9) rfl (by kernel_rfl) (by kernel_rfl) (by kernel_rfl) (by rfl) hH ?_
            simp only [Act.put, List.setIfInBounds_toArray, List.set_cons_zero, List.set_cons_succ]
            refine hSkip (i := 10) rfl (by kernel_rfl) (by kernel_rfl) (by kernel_rfl) (by rfl) hH ?_
            simp only [Act.put, List.setIfInBounds_toArray, List.set_cons_zero, List.set_cons_succ]
            refine hSkip (i := 11) rfl (by kernel_rfl) (by kernel_rfl) (by kernel_rfl) (by rfl) hH ?_
            simp only [Act.put, List.setIfInBounds_toArray, List.set_cons_zero, List.set_cons_succ]
            refine hSkip (i := 12) rfl (by kernel_rfl) (by kernel_rfl) (by kernel_rfl) (by rfl) hH ?_
            simp only [Act.put, List.setIfInBounds_toArray, List.set_cons_zero, List.set_cons_succ]
            refine hSkip (i := 13) rfl (by kernel_rfl) (by kernel_rfl) (by kernel_rfl) (by rfl) hH ?_
            simp only [Act.put, List.setIfInBounds_toArray, List.set_cons_zero, List.set_cons_succ]
            refine hSkip (i := 14) rfl (by kernel_rfl) (by kernel_rfl) (by kernel_rfl) (by rfl) hH ?_
            simp only [Act.put, List.setIfInBounds_toArray, List.set_cons_zero, List.set_cons_succ]
            refine hSkip (i := 15) rfl (by kernel_rfl) (by kernel_rfl) (by kernel_rfl) (by rfl) hH ?_
            simp only [Act.put, List.setIfInBounds_toArray, List.set_cons_zero, List.set_cons_succ]
            refine hSkip (i := 16) rfl (by kernel_rfl) (by kernel_rfl) (by kernel_rfl) (by rfl) hH ?_
            simp only [Act.put, List.setIfInBounds_toArray, List.set_cons_zero, List.set_cons_succ]
            refine hSkip (i := 17) rfl (by kernel_rfl) (by kernel_rfl) (by kernel_rfl) (by rfl) hH ?_
            simp only [Act.put, List.setIfInBounds_toArray, List.set_cons_zero, List.set_cons_succ]
            refine hSkip (i := 18) rfl (by kernel_rfl) (by kernel_rfl) (by kernel_rfl) (by rfl) hH ?_
            simp only [Act.put, List.setIfInBounds_toArray, List.set_cons_zero, List.set_cons_succ]
            refine hTake (i := 19) (v := ?_) rfl (by kernel_rfl) (by kernel_rfl) (by kernel_rfl) (by rfl) ?_ hH ?_
            rotate_left
            · intro W hW; (try dsimp only at hW); go_simp <;> with_reducible rfl
            simp only [Act.put, List.setIfInBounds_toArray, List.set_cons_zero, List.set_cons_succ]
            refine wpAnyH_done (by kernel_rfl) ?_ _
            refine NoPanic.normal ?_
            go_wp2
            go_roundw
            case rel => exact ⟨k + 1, true, by omega, by go_num, rfl, HN.out, hH.2.2⟩
            case measure => simp [intOf]; omega
      · obtain rfl : k = m1 := by omega
        have HE : Hid (y = bv) := by have h1 := HH.out; have h2 := HL.out; rw [h2, List.take_length] at h1; show _ = _; rw [← h1]; exact T3.out
        obtain rfl : y = bv := HE.out
        clear HH HE T1 T3 HBV IS IC HL
        have hyy : (y == y) = true := by simp
        go_wp2_with fail
        refine (ICv _ (hcyc.below hB)).mono ?_
        rintro e w4 ⟨rfl, hw4⟩
        obtain rfl := hw4.symm
        go_wp2_with fail
        refine (ISv _ (hsys.below hB)).mono ?_
        rintro e w5 ⟨rfl, hw5⟩
        obtain rfl := hw5.symm
        go_wp2
        go_ret
        exact ⟨rfl, b3.trans (hB.mono b3.size)⟩
  · have hc : (c != 0) = true := by simpa using h0
    have hcc : (c == c) = true := by simp
    have hfd : ∀ W, (Instr.field 32 (.agg #[.int .i64 c, .int .i64 v]) 0).run Try.prog W = .ok (.int .i64 c) W := fun _ => by kernel_rfl
    clear HT HV h0
    go_wp2_with fail
    refine wp_region_noPanic ?_
    refine wp_region_held_drew (S := fun W' => W'.cell? ⟨w2.heap.size, 0, none⟩ = some (.int .i64 c) ∧ Below w.heap.size w W') (by kernel_rfl) (⟨x0, b3.drew⟩) (fun hH => ?_)
    refine hTake (i := 0) (v := ?_) rfl (by kernel_rfl) (by kernel_rfl) (by kernel_rfl) (by rfl) ?_ hH ?_
    rotate_left
    · intro W hW; (try dsimp only at hW); go_simp <;> with_reducible rfl
    simp only [Act.put, List.setIfInBounds_toArray, List.set_cons_zero, List.set_cons_succ]
    refine hTake (i := 1) (v := ?_) rfl (by kernel_rfl) (by kernel_rfl) (by kernel_rfl) (by rfl) ?_ hH ?_
    rotate_left
    · intro W hW; (try dsimp only at hW); go_simp <;> with_reducible rfl
    simp only [Act.put, List.setIfInBounds_toArray, List.set_cons_zero, List.set_cons_succ]
    refine hTake (i := 4) (v := ?_) rfl (by kernel_rfl) (by kernel_rfl) (by kernel_rfl) (by rfl) ?_ hH ?_
    rotate_left
    · intro W hW; (try dsimp only at hW); go_simp <;> with_reducible rfl
    simp only [Act.put, List.setIfInBounds_toArray, List.set_cons_zero, List.set_cons_succ]
    refine hTake (i := 5) (v := ?_) rfl (by kernel_rfl) (by kernel_rfl) (by kernel_rfl) (by rfl) ?_ hH ?_
    rotate_left
    · intro W hW; (try dsimp only at hW); go_simp <;> with_reducible rfl
    simp only [Act.put, List.setIfInBounds_toArray, List.set_cons_zero, List.set_cons_succ]
    refine wpAnyH_ready (rs := [2]) (by kernel_rfl) (by simp) ?_
    refine AllReadyH.cons rfl (fun K hK => ?_) AllReadyH.nil
    go_simp
    refine (SI _ (hcyc.below ((Below.refl _ _).drew)) (hsys.below ((Below.refl _ _).drew))).mono ?_
    rintro e w4 ⟨rfl, b4⟩
    go_wp2_with fail
    refine hK.out _ _ ?_ (fun hH => ?_)
    · exact ⟨keep_cell b4 hH.1, hH.2.trans (b4.mono hH.2.size)⟩
    clear hK K
    refine hTake (i := 3) (v := ?_) rfl (by kernel_rfl) (by kernel_rfl) (by kernel_rfl) (by rfl) ?_ hH ?_
    rotate_left
    · intro W hW; (try dsimp only at hW); go_simp <;> with_reducible rfl
    simp only [Act.put, List.setIfInBounds_toArray, List.set_cons_zero, List.set_cons_succ]
    refine hTake (i := 6) (v := ?_) rfl (by kernel_rfl) (by kernel_rfl) (by kernel_rfl) (by rfl) ?_ hH ?_
    rotate_left
    · intro W hW; (try dsimp only at hW); go_simp <;> with_reducible rfl
    simp only [Act.put, List.setIfInBounds_toArray, List.set_cons_zero, List.set_cons_succ]
    refine hTake (i := 7) (v := ?_) rfl (by kernel_rfl) (by kernel_rfl) (by kernel_rfl) (by rfl) ?_ hH ?_
    rotate_left
    · intro W hW; (try dsimp only at hW); go_simp <;> with_reducible rfl
    simp only [Act.put, List.setIfInBounds_toArray, List.set_cons_zero, List.set_cons_succ]
    refine wpAnyH_done (by kernel_rfl) ?_ _
    refine NoPanic.normal ?_
    go_wp2
    go_ret
    exact ⟨rfl, hH.2⟩
end Go.Proofs.Ytbeolkklnlljcaa
