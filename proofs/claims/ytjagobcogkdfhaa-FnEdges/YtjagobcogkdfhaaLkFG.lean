/- Several texts in one: LkF, LkG. -/
import Derived.Test.YtjagobcogkdfhaaLkR
import Derived.Test.YtjagobcogkdfhaaLkU
import Derived.Test.YtjagobcogkdfhaaAppX


/- LocksFault of the model and of the program. -/
namespace Go.Proofs.Ytjagobcogkdfhaa
open Go.RowKit Go.Maps

theorem Try.info131 : (Try.prog.info? 131).map (fun i => (i.zero, i.size, i.bytes)) = some (some (.agg #[.int .i64 0, .int .i64 0]), 2, 16) := by kernel_rfl

theorem Ch.res_bd {r : Int} (h : Ch.inB r 0 100 = true) : 0 ≤ r ∧ r ≤ 100 := by unfold Ch.inB at h; simp at h; exact h
theorem Ch.crossRow_false {ls : List Ch.Lock} {i : Nat} (h : ∀ x, x < (Ch.lkAt ls i).qs.length → ((List.range i).any fun j => Ch.hasH (Ch.lkAt ls j).qs ((Ch.lkAt ls i).qs.getD x Ch.Hold.zero).t) = false) : Ch.crossRow ls i = false := by
  unfold Ch.crossRow
  rw [List.any_eq_false]
  intro q hq
  obtain ⟨x, hx, rfl⟩ := List.getElem_of_mem hq
  have := h x hx
  simpa [List.getD, hx] using this
theorem Ch.range_any_false {n : Nat} {p : Nat → Bool} (h : ∀ i, i < n → p i = false) : (List.range n).any p = false := by
  rw [List.any_eq_false]
  intro x hx
  rw [h x (by simpa using hx)]
  simp
theorem Ch.cross_hit {ls : List Ch.Lock} {i x j : Nat} (hi : i < ls.length) (hx : x < (Ch.lkAt ls i).qs.length) (hj : j < i) (h : Ch.hasH (Ch.lkAt ls j).qs ((Ch.lkAt ls i).qs.getD x Ch.Hold.zero).t = true) : (List.range ls.length).any (Ch.crossRow ls) = true := by
  rw [List.any_eq_true]
  refine ⟨i, by simpa using hi, ?_⟩
  unfold Ch.crossRow
  refine Ch.any_true Ch.Hold.zero hx ?_
  rw [List.any_eq_true]
  exact ⟨j, by simpa using hj, h⟩

set_option maxHeartbeats 4000000 in
theorem l6Fault_any (a : Option Addr) (n cap : Nat) (ls : List Ch.Lock) (w : World) (h : LkAt w a n ls) (hs : Ch.lkSize ls ≤ 1048576) :
    Calls Try.prog 93 #[.slice a n cap] w fun e w' => e = .returned (.int .i64 (Ch.locksFault ls)) ∧ Below w.heap.size w w' := by
  have HL := h.len
  have hn : n ≤ 1048576 := by unfold Ch.lkSize at hs; have := HL.out; omega
  go_enter Try.func93, Try.ntmps93
  go_wp2
  go_loopw [3] (fun i wr => ∃ k : Nat, k ≤ n ∧ i = .int .i64 k ∧ Hid (Ch.locksFault ls = Ch.lksGo ls (n - k) k) ∧ Hid (∀ j, j < k → Ch.lkOne ls j = 0) ∧ Below w.heap.size w wr) (fun i _ => n - (intOf i).toNat)
  case atStart => exact ⟨0, Nat.zero_le _, rfl, (by have := HL.out; subst this; rfl), (fun j hj => by omega), Below.refl _ _⟩
  case round =>
    obtain ⟨k, hk, rfl, HR, HA, hB⟩ := hrel
    by_cases hlt : k < n
    · have HSz := hid (Ch.lk_one hs k)
      have HBad := hid (fun hb => HR.out.trans (Ch.lksGo_bad (ls := ls) hlt hb))
      have HNext := hid (fun hb => HR.out.trans (Ch.lksGo_next (ls := ls) hlt hb))
      have HRes := hid (fun hb => Ch.lkOne_res (ls := ls) (k := k) hb)
      have HLow := hid (fun hb h0 h1 => Ch.lkOne_low (ls := ls) (k := k) hb h0 h1)
      have HOwn := hid (fun hb h1 => Ch.lkOne_own (ls := ls) (k := k) hb h1)
      obtain ⟨b, off, ah, nh, ch, aq, nq, cq, rfl, hl⟩ := (h.below hB).lock hlt
      have hH4 := hl.2.2.2.1.hlen
      have hQ4 := hl.2.2.2.2.1.hlen
      have hnh : nh ≤ 1048576 := by have := HSz.out; have := hH4.out; omega
      have hnq : nq ≤ 1048576 := by have := HSz.out; have := hQ4.out; omega
      have c0 := hl.1
      have hbl := lt_of_cell c0
      have IR := fun W => l6Res_any (Ch.lkAt ls k).r W
      cases hr : Ch.inB (Ch.lkAt ls k).r 0 100
      all_goals rw [hr] at IR
      · have H3 := hid (HRes.out hr)
        generalize (Ch.lkAt ls k).r = rk at *
        go_wp2_with fail
        refine (IR _).mono ?_
        rintro e w1 ⟨rfl, hw1⟩
        obtain rfl := hw1.symm
        go_wp2
        go_ret
        exact ⟨ret_int (by rw [HBad.out (by rw [H3.out]; rfl), H3.out]), hB⟩
      · by_cases hlow : 0 < k ∧ (Ch.lkAt ls k).r ≤ (Ch.lkAt ls (k - 1)).r
        · obtain ⟨j, rfl⟩ : ∃ j, k = j + 1 := ⟨k - 1, by omega⟩
          have H3 := hid (HLow.out hr hlow.1 hlow.2)
          have hle := hlow.2
          rw [show j + 1 - 1 = j from rfl] at hle
          obtain ⟨b', off', _, _, _, _, _, _, hbo, hj⟩ := (h.below hB).lock (show j < n by omega)
          simp only [Option.some.injEq, Addr.mk.injEq, and_true] at hbo
          obtain ⟨rfl, rfl⟩ := hbo
          have p0 := hj.1
          clear hj hlow
          generalize (Ch.lkAt ls (j + 1)).r = rk at *
          generalize (Ch.lkAt ls j).r = rj at *
          have hd : decide ((0 : Int) < ((j + 1 : Nat) : Int)) = true := by simp
          have hwj : IntKind.i64.wrap (j : Int) = (j : Int) := IntWalk.i64_in _ ⟨by omega, by omega⟩
          have hj0 : (0 : Int) ≤ (j : Int) := by omega
          have hjn : (j : Int) < (n : Int) := by omega
          have hj1 : (0 : Int) ≤ (j : Int) + 1 := by omega
          have hj2 : (j : Int) + 1 < (n : Int) := by omega
          go_wp2_with fail
          refine (IR _).mono ?_
          rintro e w1 ⟨rfl, hw1⟩
          obtain rfl := hw1.symm
          go_wp2_with fail
          refine wp_region_noPanic ?_
          refine wp_region_held_drew (S := fun W' => W'.cell? ⟨b, off + (j + 1) * 3, none⟩ = some (.int .i64 rk) ∧ W'.cell? ⟨b, off + j * 3, none⟩ = some (.int .i64 rj) ∧ Below w.heap.size w W') (by kernel_rfl) (⟨c0, p0, hB.drew⟩) (fun hH => ?_)
          refine hTake (i := 0) (v := ?_) rfl (by kernel_rfl) (by kernel_rfl) (by kernel_rfl) (by rfl) ?_ hH ?_
          rotate_left
          · intro W hW; (try dsimp only at hW); go_simp <;> with_reducible rfl
          simp only [Act.put, List.setIfInBounds_toArray, List.set_cons_zero, List.set_cons_succ]
          refine hTake (i := 1) (v := ?_) rfl (by kernel_rfl) (by kernel_rfl) (by kernel_rfl) (by rfl) ?_ hH ?_
          rotate_left
          · intro W hW; (try dsimp only at hW); go_simp <;> with_reducible rfl
          simp only [Act.put, List.setIfInBounds_toArray, List.set_cons_zero, List.set_cons_succ]
          refine hTake (i := 2) (v := ?_) rfl (by kernel_rfl) (by kernel_rfl) (by kernel_rfl) (by rfl) ?_ hH ?_
          rotate_left
          · intro W hW; (try dsimp only at hW); go_simp <;> with_reducible rfl
          simp only [Act.put, List.setIfInBounds_toArray, List.set_cons_zero, List.set_cons_succ]
          refine hTake (i := 3) (v := ?_) rfl (by kernel_rfl) (by kernel_rfl) (by kernel_rfl) (by rfl) ?_ hH ?_
          rotate_left
          · intro W hW; (try dsimp only at hW); go_simp <;> with_reducible rfl
          simp only [Act.put, List.setIfInBounds_toArray, List.set_cons_zero, List.set_cons_succ]
          refine hTake (i := 4) (v := ?_) rfl (by kernel_rfl) (by kernel_rfl) (by kernel_rfl) (by rfl) ?_ hH ?_
          rotate_left
          · intro W hW; (try dsimp only at hW); go_simp <;> with_reducible rfl
          simp only [Act.put, List.setIfInBounds_toArray, List.set_cons_zero, List.set_cons_succ]
          refine hTake (i := 5) (v := ?_) rfl (by kernel_rfl) (by kernel_rfl) (by kernel_rfl) (by rfl) ?_ hH ?_
          rotate_left
          · intro W hW; (try dsimp only at hW); go_simp <;> with_reducible rfl
          simp only [Act.put, List.setIfInBounds_toArray, List.set_cons_zero, List.set_cons_succ]
          refine hTake (i := 6) (v := ?_) rfl (by kernel_rfl) (by kernel_rfl) (by kernel_rfl) (by rfl) ?_ hH ?_
          rotate_left
          · intro W hW; (try dsimp only at hW); go_simp <;> with_reducible rfl
          simp only [Act.put, List.setIfInBounds_toArray, List.set_cons_zero, List.set_cons_succ]
          refine hTake (i := 7) (v := ?_) rfl (by kernel_rfl) (by kernel_rfl) (by kernel_rfl) (by rfl) ?_ hH ?_
          rotate_left
          · intro W hW; (try dsimp only at hW); go_simp <;> with_reducible rfl
          simp only [Act.put, List.setIfInBounds_toArray, List.set_cons_zero, List.set_cons_succ]
          refine hTake (i := 8) (v := ?_) rfl (by kernel_rfl) (by kernel_rfl) (by kernel_rfl) (by rfl) ?_ hH ?_
          rotate_left
          · intro W hW; (try dsimp only at hW); go_simp <;> with_reducible rfl
          simp only [Act.put, List.setIfInBounds_toArray, List.set_cons_zero, List.set_cons_succ]
          refine hTake (i := 9) (v := ?_) rfl (by kernel_rfl) (by kernel_rfl) (by kernel_rfl) (by rfl) ?_ hH ?_
          rotate_left
          · intro W hW; (try dsimp only at hW); go_simp <;> with_reducible rfl
          simp only [Act.put, List.setIfInBounds_toArray, List.set_cons_zero, List.set_cons_succ]
          refine hTake (i := 10) (v := ?_) rfl (by kernel_rfl) (by kernel_rfl) (by kernel_rfl) (by rfl) ?_ hH ?_
          rotate_left
          · intro W hW; (try dsimp only at hW); go_simp <;> with_reducible rfl
          simp only [Act.put, List.setIfInBounds_toArray, List.set_cons_zero, List.set_cons_succ]
          refine hTake (i := 11) (v := ?_) rfl (by kernel_rfl) (by kernel_rfl) (by kernel_rfl) (by rfl) ?_ hH ?_
          rotate_left
          · intro W hW; (try dsimp only at hW); go_simp <;> with_reducible rfl
          simp only [Act.put, List.setIfInBounds_toArray, List.set_cons_zero, List.set_cons_succ]
          refine hTake (i := 12) (v := ?_) rfl (by kernel_rfl) (by kernel_rfl) (by kernel_rfl) (by rfl) ?_ hH ?_
          rotate_left
          · intro W hW; (try dsimp only at hW); go_simp <;> with_reducible rfl
          simp only [Act.put, List.setIfInBounds_toArray, List.set_cons_zero, List.set_cons_succ]
          refine hTake (i := 13) (v := ?_) rfl (by kernel_rfl) (by kernel_rfl) (by kernel_rfl) (by rfl) ?_ hH ?_
          rotate_left
          · intro W hW; (try dsimp only at hW); go_simp <;> with_reducible rfl
          simp only [Act.put, List.setIfInBounds_toArray, List.set_cons_zero, List.set_cons_succ]
          refine hTake (i := 14) (v := ?_) rfl (by kernel_rfl) (by kernel_rfl) (by kernel_rfl) (by rfl) ?_ hH ?_
          rotate_left
          · intro W hW; (try dsimp only at hW); go_simp <;> with_reducible rfl
          simp only [Act.put, List.setIfInBounds_toArray, List.set_cons_zero, List.set_cons_succ]
          refine hTake (i := 15) (v := ?_) rfl (by kernel_rfl) (by kernel_rfl) (by kernel_rfl) (by rfl) ?_ hH ?_
          rotate_left
          · intro W hW; (try dsimp only at hW); go_simp <;> with_reducible rfl
          simp only [Act.put, List.setIfInBounds_toArray, List.set_cons_zero, List.set_cons_succ]
          refine wpAnyH_done (by kernel_rfl) ?_ _
          refine NoPanic.normal ?_
          go_wp2
          go_ret
          exact ⟨ret_int (by rw [HBad.out (by rw [H3.out]; rfl), H3.out]), hH.2.2⟩
        · have H3 := hid (HOwn.out hr hlow)
          have IL := fun W hW => l6Lock_any b (off + k * 3) ah nh ch aq nq cq (Ch.lkAt ls k) W hW hnh hnq
          rw [← H3.out] at IL
          cases hf : (Ch.lkOne ls k != 0)
          · have HN := hid (HNext.out hf)
            have HZ : Hid (Ch.lkOne ls k = 0) := by show _ = _; simpa using hf
            have HA' : Hid (∀ j, j < k + 1 → Ch.lkOne ls j = 0) := by
              intro j hj
              by_cases e : j = k
              · subst e; exact HZ.out
              · exact HA.out j (by omega)
            rw [HZ.out] at IL
            cases k with
            | zero =>
              have hd : decide ((0 : Int) < ((0 : Nat) : Int)) = false := by simp
              simp only [Nat.zero_mul, Nat.add_zero] at c0 IL hl
              generalize (Ch.lkAt ls 0).r = rk at *
              go_wp2_with fail
              refine (IR _).mono ?_
              rintro e w1 ⟨rfl, hw1⟩
              obtain rfl := hw1.symm
              go_wp2_with fail
              refine wp_region_noPanic ?_
              refine wp_region_held_drew (S := fun W' => Below w.heap.size w W') (by kernel_rfl) (hB.drew) (fun hH => ?_)
              refine hTake (i := 0) (v := ?_) rfl (by kernel_rfl) (by kernel_rfl) (by kernel_rfl) (by rfl) ?_ hH ?_
              rotate_left
              · intro W hW; (try dsimp only at hW); go_simp <;> with_reducible rfl
              simp only [Act.put, List.setIfInBounds_toArray, List.set_cons_zero, List.set_cons_succ]
              refine hTake (i := 1) (v := ?_) rfl (by kernel_rfl) (by kernel_rfl) (by kernel_rfl) (by rfl) ?_ hH ?_
              rotate_left
              · intro W hW; (try dsimp only at hW); go_simp <;> with_reducible rfl
              simp only [Act.put, List.setIfInBounds_toArray, List.set_cons_zero, List.set_cons_succ]
              refine hTake (i := 2) (v := ?_) rfl (by kernel_rfl) (by kernel_rfl) (by kernel_rfl) (by rfl) ?_ hH ?_
              rotate_left
              · intro W hW; (try dsimp only at hW); go_simp <;> with_reducible rfl
              simp only [Act.put, List.setIfInBounds_toArray, List.set_cons_zero, List.set_cons_succ]
              refine hSkip (i := 3) rfl (by kernel_rfl) (by kernel_rfl) (by kernel_rfl) (by rfl) hH ?_
              simp only [Act.put, List.setIfInBounds_toArray, List.set_cons_zero, List.set_cons_succ]
              refine hSkip (i := 4) rfl (by kernel_rfl) (by kernel_rfl) (by kernel_rfl) (by rfl) hH ?_
              simp only [Act.put, List.setIfInBounds_toArray, List.set_cons_zero, List.set_cons_succ]
              refine hSkip (i := 5) rfl (by kernel_rfl) (by kernel_rfl) (by kernel_rfl) (by rfl) hH ?_
              simp only [Act.put, List.setIfInBounds_toArray, List.set_cons_zero, List.set_cons_succ]
              refine hSkip (i := 6) rfl (by kernel_rfl) (by kernel_rfl) (by kernel_rfl) (by rfl) hH ?_
              simp only [Act.put, List.setIfInBounds_toArray, List.set_cons_zero, List.set_cons_succ]
              refine hSkip (i := 7) rfl (by kernel_rfl) (by kernel_rfl) (by kernel_rfl) (by rfl) hH ?_
              simp only [Act.put, List.setIfInBounds_toArray, List.set_cons_zero, List.set_cons_succ]
              refine hSkip (i := 8) rfl (by kernel_rfl) (by kernel_rfl) (by kernel_rfl) (by rfl) hH ?_
              simp only [Act.put, List.setIfInBounds_toArray, List.set_cons_zero, List.set_cons_succ]
              refine hSkip (i := 9) rfl (by kernel_rfl) (by kernel_rfl) (by kernel_rfl) (by rfl) hH ?_
              simp only [Act.put, List.setIfInBounds_toArray, List.set_cons_zero, List.set_cons_succ]
              refine hSkip (i := 10) rfl (by kernel_rfl) (by kernel_rfl) (by kernel_rfl) (by rfl) hH ?_
              simp only [Act.put, List.setIfInBounds_toArray, List.set_cons_zero, List.set_cons_succ]
              refine hSkip (i := 11) rfl (by kernel_rfl) (by kernel_rfl) (by kernel_rfl) (by rfl) hH ?_
              simp only [Act.put, List.setIfInBounds_toArray, List.set_cons_zero, List.set_cons_succ]
              refine hSkip (i := 12) rfl (by kernel_rfl) (by kernel_rfl) (by kernel_rfl) (by rfl) hH ?_
              simp only [Act.put, List.setIfInBounds_toArray, List.set_cons_zero, List.set_cons_succ]
              refine hSkip (i := 13) rfl (by kernel_rfl) (by kernel_rfl) (by kernel_rfl) (by rfl) hH ?_
              simp only [Act.put, List.setIfInBounds_toArray, List.set_cons_zero, List.set_cons_succ]
              refine hSkip (i := 14) rfl (by kernel_rfl) (by kernel_rfl) (by kernel_rfl) (by rfl) hH ?_
              simp only [Act.put, List.setIfInBounds_toArray, List.set_cons_zero, List.set_cons_succ]
              refine hTake (i := 15) (v := ?_) rfl (by kernel_rfl) (by kernel_rfl) (by kernel_rfl) (by rfl) ?_ hH ?_
              rotate_left
              · intro W hW; (try dsimp only at hW); go_simp <;> with_reducible rfl
              simp only [Act.put, List.setIfInBounds_toArray, List.set_cons_zero, List.set_cons_succ]
              refine wpAnyH_done (by kernel_rfl) ?_ _
              refine NoPanic.normal ?_
              go_wp2_with fail
              refine (IL _ (hl.below (Below.refl _ _).drew)).mono ?_
              rintro e w2 ⟨rfl, b2⟩
              go_wp2
              go_roundw
              case rel => exact ⟨1, by omega, by go_num, HN.out, HA'.out, hH.trans (b2.mono hH.size)⟩
              case measure => simp [intOf]; omega
            | succ j =>
              have hle : ¬ (Ch.lkAt ls (j + 1)).r ≤ (Ch.lkAt ls j).r := fun h => hlow ⟨by omega, h⟩
              obtain ⟨b', off', _, _, _, _, _, _, hbo, hj⟩ := (h.below hB).lock (show j < n by omega)
              simp only [Option.some.injEq, Addr.mk.injEq, and_true] at hbo
              obtain ⟨rfl, rfl⟩ := hbo
              have p0 := hj.1
              clear hj hlow
              generalize (Ch.lkAt ls (j + 1)).r = rk at *
              generalize (Ch.lkAt ls j).r = rj at *
              have hd : decide ((0 : Int) < ((j + 1 : Nat) : Int)) = true := by simp
              have hwj : IntKind.i64.wrap (j : Int) = (j : Int) := IntWalk.i64_in _ ⟨by omega, by omega⟩
              have hj0 : (0 : Int) ≤ (j : Int) := by omega
              have hjn : (j : Int) < (n : Int) := by omega
              have hj1 : (0 : Int) ≤ (j : Int) + 1 := by omega
              have hj2 : (j : Int) + 1 < (n : Int) := by omega
              go_wp2_with fail
              refine (IR _).mono ?_
              rintro e w1 ⟨rfl, hw1⟩
              obtain rfl := hw1.symm
              go_wp2_with fail
              refine wp_region_noPanic ?_
              refine wp_region_held_drew (S := fun W' => W'.cell? ⟨b, off + (j + 1) * 3, none⟩ = some (.int .i64 rk) ∧ W'.cell? ⟨b, off + j * 3, none⟩ = some (.int .i64 rj) ∧ Below w.heap.size w W') (by kernel_rfl) (⟨c0, p0, hB.drew⟩) (fun hH => ?_)
              refine hTake (i := 0) (v := ?_) rfl (by kernel_rfl) (by kernel_rfl) (by kernel_rfl) (by rfl) ?_ hH ?_
              rotate_left
              · intro W hW; (try dsimp only at hW); go_simp <;> with_reducible rfl
              simp only [Act.put, List.setIfInBounds_toArray, List.set_cons_zero, List.set_cons_succ]
              refine hTake (i := 1) (v := ?_) rfl (by kernel_rfl) (by kernel_rfl) (by kernel_rfl) (by rfl) ?_ hH ?_
              rotate_left
              · intro W hW; (try dsimp only at hW); go_simp <;> with_reducible rfl
              simp only [Act.put, List.setIfInBounds_toArray, List.set_cons_zero, List.set_cons_succ]
              refine hTake (i := 2) (v := ?_) rfl (by kernel_rfl) (by kernel_rfl) (by kernel_rfl) (by rfl) ?_ hH ?_
              rotate_left
              · intro W hW; (try dsimp only at hW); go_simp <;> with_reducible rfl
              simp only [Act.put, List.setIfInBounds_toArray, List.set_cons_zero, List.set_cons_succ]
              refine hTake (i := 3) (v := ?_) rfl (by kernel_rfl) (by kernel_rfl) (by kernel_rfl) (by rfl) ?_ hH ?_
              rotate_left
              · intro W hW; (try dsimp only at hW); go_simp <;> with_reducible rfl
              simp only [Act.put, List.setIfInBounds_toArray, List.set_cons_zero, List.set_cons_succ]
              refine hTake (i := 4) (v := ?_) rfl (by kernel_rfl) (by kernel_rfl) (by kernel_rfl) (by rfl) ?_ hH ?_
              rotate_left
              · intro W hW; (try dsimp only at hW); go_simp <;> with_reducible rfl
              simp only [Act.put, List.setIfInBounds_toArray, List.set_cons_zero, List.set_cons_succ]
              refine hTake (i := 5) (v := ?_) rfl (by kernel_rfl) (by kernel_rfl) (by kernel_rfl) (by rfl) ?_ hH ?_
              rotate_left
              · intro W hW; (try dsimp only at hW); go_simp <;> with_reducible rfl
              simp only [Act.put, List.setIfInBounds_toArray, List.set_cons_zero, List.set_cons_succ]
              refine hTake (i := 6) (v := ?_) rfl (by kernel_rfl) (by kernel_rfl) (by kernel_rfl) (by rfl) ?_ hH ?_
              rotate_left
              · intro W hW; (try dsimp only at hW); go_simp <;> with_reducible rfl
              simp only [Act.put, List.setIfInBounds_toArray, List.set_cons_zero, List.set_cons_succ]
              refine hTake (i := 7) (v := ?_) rfl (by kernel_rfl) (by kernel_rfl) (by kernel_rfl) (by rfl) ?_ hH ?_
              rotate_left
              · intro W hW; (try dsimp only at hW); go_simp <;> with_reducible rfl
              simp only [Act.put, List.setIfInBounds_toArray, List.set_cons_zero, List.set_cons_succ]
              refine hTake (i := 8) (v := ?_) rfl (by kernel_rfl) (by kernel_rfl) (by kernel_rfl) (by rfl) ?_ hH ?_
              rotate_left
              · intro W hW; (try dsimp only at hW); go_simp <;> with_reducible rfl
              simp only [Act.put, List.setIfInBounds_toArray, List.set_cons_zero, List.set_cons_succ]
              refine hTake (i := 9) (v := ?_) rfl (by kernel_rfl) (by kernel_rfl) (by kernel_rfl) (by rfl) ?_ hH ?_
              rotate_left
              · intro W hW; (try dsimp only at hW); go_simp <;> with_reducible rfl
              simp only [Act.put, List.setIfInBounds_toArray, List.set_cons_zero, List.set_cons_succ]
              refine hTake (i := 10) (v := ?_) rfl (by kernel_rfl) (by kernel_rfl) (by kernel_rfl) (by rfl) ?_ hH ?_
              rotate_left
              · intro W hW; (try dsimp only at hW); go_simp <;> with_reducible rfl
              simp only [Act.put, List.setIfInBounds_toArray, List.set_cons_zero, List.set_cons_succ]
              refine hTake (i := 11) (v := ?_) rfl (by kernel_rfl) (by kernel_rfl) (by kernel_rfl) (by rfl) ?_ hH ?_
              rotate_left
              · intro W hW; (try dsimp only at hW); go_simp <;> with_reducible rfl
              simp only [Act.put, List.setIfInBounds_toArray, List.set_cons_zero, List.set_cons_succ]
              refine hTake (i := 12) (v := ?_) rfl (by kernel_rfl) (by kernel_rfl) (by kernel_rfl) (by rfl) ?_ hH ?_
              rotate_left
              · intro W hW; (try dsimp only at hW); go_simp <;> with_reducible rfl
              simp only [Act.put, List.setIfInBounds_toArray, List.set_cons_zero, List.set_cons_succ]
              refine hTake (i := 13) (v := ?_) rfl (by kernel_rfl) (by kernel_rfl) (by kernel_rfl) (by rfl) ?_ hH ?_
              rotate_left
              · intro W hW; (try dsimp only at hW); go_simp <;> with_reducible rfl
              simp only [Act.put, List.setIfInBounds_toArray, List.set_cons_zero, List.set_cons_succ]
              refine hTake (i := 14) (v := ?_) rfl (by kernel_rfl) (by kernel_rfl) (by kernel_rfl) (by rfl) ?_ hH ?_
              rotate_left
              · intro W hW; (try dsimp only at hW); go_simp <;> with_reducible rfl
              simp only [Act.put, List.setIfInBounds_toArray, List.set_cons_zero, List.set_cons_succ]
              refine hTake (i := 15) (v := ?_) rfl (by kernel_rfl) (by kernel_rfl) (by kernel_rfl) (by rfl) ?_ hH ?_
              rotate_left
              · intro W hW; (try dsimp only at hW); go_simp <;> with_reducible rfl
              simp only [Act.put, List.setIfInBounds_toArray, List.set_cons_zero, List.set_cons_succ]
              refine wpAnyH_done (by kernel_rfl) ?_ _
              refine NoPanic.normal ?_
              go_wp2_with fail
              refine (IL _ (hl.below (Below.refl _ _).drew)).mono ?_
              rintro e w2 ⟨rfl, b2⟩
              go_wp2
              go_roundw
              case rel => exact ⟨j + 1 + 1, by omega, by go_num, HN.out, HA'.out, hH.2.2.trans (b2.mono hH.2.2.size)⟩
              case measure => simp [intOf]; omega
          · have HN := hid (HBad.out hf)
            obtain ⟨cf, HCF⟩ : ∃ cf, Hid (Ch.lkOne ls k = cf) := ⟨_, rfl⟩
            rw [HCF.out] at hf IL
            have hf0 : ¬ cf = 0 := by simpa using hf
            cases k with
            | zero =>
              have hd : decide ((0 : Int) < ((0 : Nat) : Int)) = false := by simp
              simp only [Nat.zero_mul, Nat.add_zero] at c0 IL hl
              generalize (Ch.lkAt ls 0).r = rk at *
              go_wp2_with fail
              refine (IR _).mono ?_
              rintro e w1 ⟨rfl, hw1⟩
              obtain rfl := hw1.symm
              go_wp2_with fail
              refine wp_region_noPanic ?_
              refine wp_region_held_drew (S := fun W' => Below w.heap.size w W') (by kernel_rfl) (hB.drew) (fun hH => ?_)
              refine hTake (i := 0) (v := ?_) rfl (by kernel_rfl) (by kernel_rfl) (by kernel_rfl) (by rfl) ?_ hH ?_
              rotate_left
              · intro W hW; (try dsimp only at hW); go_simp <;> with_reducible rfl
              simp only [Act.put, List.setIfInBounds_toArray, List.set_cons_zero, List.set_cons_succ]
              refine hTake (i := 1) (v := ?_) rfl (by kernel_rfl) (by kernel_rfl) (by kernel_rfl) (by rfl) ?_ hH ?_
              rotate_left
              · intro W hW; (try dsimp only at hW); go_simp <;> with_reducible rfl
              simp only [Act.put, List.setIfInBounds_toArray, List.set_cons_zero, List.set_cons_succ]
              refine hTake (i := 2) (v := ?_) rfl (by kernel_rfl) (by kernel_rfl) (by kernel_rfl) (by rfl) ?_ hH ?_
              rotate_left
              · intro W hW; (try dsimp only at hW); go_simp <;> with_reducible rfl
              simp only [Act.put, List.setIfInBounds_toArray, List.set_cons_zero, List.set_cons_succ]
              refine hSkip (i := 3) rfl (by kernel_rfl) (by kernel_rfl) (by kernel_rfl) (by rfl) hH ?_
              simp only [Act.put, List.setIfInBounds_toArray, List.set_cons_zero, List.set_cons_succ]
              refine hSkip (i := 4) rfl (by kernel_rfl) (by kernel_rfl) (by kernel_rfl) (by rfl) hH ?_
              simp only [Act.put, List.setIfInBounds_toArray, List.set_cons_zero, List.set_cons_succ]
              refine hSkip (i := 5) rfl (by kernel_rfl) (by kernel_rfl) (by kernel_rfl) (by rfl) hH ?_
              simp only [Act.put, List.setIfInBounds_toArray, List.set_cons_zero, List.set_cons_succ]
              refine hSkip (i := 6) rfl (by kernel_rfl) (by kernel_rfl) (by kernel_rfl) (by rfl) hH ?_
              simp only [Act.put, List.setIfInBounds_toArray, List.set_cons_zero, List.set_cons_succ]
              refine hSkip (i := 7) rfl (by kernel_rfl) (by kernel_rfl) (by kernel_rfl) (by rfl) hH ?_
              simp only [Act.put, List.setIfInBounds_toArray, List.set_cons_zero, List.set_cons_succ]
              refine hSkip (i := 8) rfl (by kernel_rfl) (by kernel_rfl) (by kernel_rfl) (by rfl) hH ?_
              simp only [Act.put, List.setIfInBounds_toArray, List.set_cons_zero, List.set_cons_succ]
              refine hSkip (i := 9) rfl (by kernel_rfl) (by kernel_rfl) (by kernel_rfl) (by rfl) hH ?_
              simp only [Act.put, List.setIfInBounds_toArray, List.set_cons_zero, List.set_cons_succ]
              refine hSkip (i := 10) rfl (by kernel_rfl) (by kernel_rfl) (by kernel_rfl) (by rfl) hH ?_
              simp only [Act.put, List.setIfInBounds_toArray, List.set_cons_zero, List.set_cons_succ]
              refine hSkip (i := 11) rfl (by kernel_rfl) (by kernel_rfl) (by kernel_rfl) (by rfl) hH ?_
              simp only [Act.put, List.setIfInBounds_toArray, List.set_cons_zero, List.set_cons_succ]
              refine hSkip (i := 12) rfl (by kernel_rfl) (by kernel_rfl) (by kernel_rfl) (by rfl) hH ?_
              simp only [Act.put, List.setIfInBounds_toArray, List.set_cons_zero, List.set_cons_succ]
              refine hSkip (i := 13) rfl (by kernel_rfl) (by kernel_rfl) (by kernel_rfl) (by rfl) hH ?_
              simp only [Act.put, List.setIfInBounds_toArray, List.set_cons_zero, List.set_cons_succ]
              refine hSkip (i := 14) rfl (by kernel_rfl) (by kernel_rfl) (by kernel_rfl) (by rfl) hH ?_
              simp only [Act.put, List.setIfInBounds_toArray, List.set_cons_zero, List.set_cons_succ]
              refine hTake (i := 15) (v := ?_) rfl (by kernel_rfl) (by kernel_rfl) (by kernel_rfl) (by rfl) ?_ hH ?_
              rotate_left
              · intro W hW; (try dsimp only at hW); go_simp <;> with_reducible rfl
              simp only [Act.put, List.setIfInBounds_toArray, List.set_cons_zero, List.set_cons_succ]
              refine wpAnyH_done (by kernel_rfl) ?_ _
              refine NoPanic.normal ?_
              go_wp2_with fail
              refine (IL _ (hl.below (Below.refl _ _).drew)).mono ?_
              rintro e w2 ⟨rfl, b2⟩
              go_wp2
              go_ret
              exact ⟨ret_int (by rw [HN.out, HCF.out]), hH.trans (b2.mono hH.size)⟩
            | succ j =>
              have hle : ¬ (Ch.lkAt ls (j + 1)).r ≤ (Ch.lkAt ls j).r := fun h => hlow ⟨by omega, h⟩
              obtain ⟨b', off', _, _, _, _, _, _, hbo, hj⟩ := (h.below hB).lock (show j < n by omega)
              simp only [Option.some.injEq, Addr.mk.injEq, and_true] at hbo
              obtain ⟨rfl, rfl⟩ := hbo
              have p0 := hj.1
              clear hj hlow
              generalize (Ch.lkAt ls (j + 1)).r = rk at *
              generalize (Ch.lkAt ls j).r = rj at *
              have hd : decide ((0 : Int) < ((j + 1 : Nat) : Int)) = true := by simp
              have hwj : IntKind.i64.wrap (j : Int) = (j : Int) := IntWalk.i64_in _ ⟨by omega, by omega⟩
              have hj0 : (0 : Int) ≤ (j : Int) := by omega
              have hjn : (j : Int) < (n : Int) := by omega
              have hj1 : (0 : Int) ≤ (j : Int) + 1 := by omega
              have hj2 : (j : Int) + 1 < (n : Int) := by omega
              go_wp2_with fail
              refine (IR _).mono ?_
              rintro e w1 ⟨rfl, hw1⟩
              obtain rfl := hw1.symm
              go_wp2_with fail
              refine wp_region_noPanic ?_
              refine wp_region_held_drew (S := fun W' => W'.cell? ⟨b, off + (j + 1) * 3, none⟩ = some (.int .i64 rk) ∧ W'.cell? ⟨b, off + j * 3, none⟩ = some (.int .i64 rj) ∧ Below w.heap.size w W') (by kernel_rfl) (⟨c0, p0, hB.drew⟩) (fun hH => ?_)
              refine hTake (i := 0) (v := ?_) rfl (by kernel_rfl) (by kernel_rfl) (by kernel_rfl) (by rfl) ?_ hH ?_
              rotate_left
              · intro W hW; (try dsimp only at hW); go_simp <;> with_reducible rfl
              simp only [Act.put, List.setIfInBounds_toArray, List.set_cons_zero, List.set_cons_succ]
              refine hTake (i := 1) (v := ?_) rfl (by kernel_rfl) (by kernel_rfl) (by kernel_rfl) (by rfl) ?_ hH ?_
              rotate_left
              · intro W hW; (try dsimp only at hW); go_simp <;> with_reducible rfl
              simp only [Act.put, List.setIfInBounds_toArray, List.set_cons_zero, List.set_cons_succ]
              refine hTake (i := 2) (v := ?_) rfl (by kernel_rfl) (by kernel_rfl) (by kernel_rfl) (by rfl) ?_ hH ?_
              rotate_left
              · intro W hW; (try dsimp only at hW); go_simp <;> with_reducible rfl
              simp only [Act.put, List.setIfInBounds_toArray, List.set_cons_zero, List.set_cons_succ]
              refine hTake (i := 3) (v := ?_) rfl (by kernel_rfl) (by kernel_rfl) (by kernel_rfl) (by rfl) ?_ hH ?_
              rotate_left
              · intro W hW; (try dsimp only at hW); go_simp <;> with_reducible rfl
              simp only [Act.put, List.setIfInBounds_toArray, List.set_cons_zero, List.set_cons_succ]
              refine hTake (i := 4) (v := ?_) rfl (by kernel_rfl) (by kernel_rfl) (by kernel_rfl) (by rfl) ?_ hH ?_
              rotate_left
              · intro W hW; (try dsimp only at hW); go_simp <;> with_reducible rfl
              simp only [Act.put, List.setIfInBounds_toArray, List.set_cons_zero, List.set_cons_succ]
              refine hTake (i := 5) (v := ?_) rfl (by kernel_rfl) (by kernel_rfl) (by kernel_rfl) (by rfl) ?_ hH ?_
              rotate_left
              · intro W hW; (try dsimp only at hW); go_simp <;> with_reducible rfl
              simp only [Act.put, List.setIfInBounds_toArray, List.set_cons_zero, List.set_cons_succ]
              refine hTake (i := 6) (v := ?_) rfl (by kernel_rfl) (by kernel_rfl) (by kernel_rfl) (by rfl) ?_ hH ?_
              rotate_left
              · intro W hW; (try dsimp only at hW); go_simp <;> with_reducible rfl
              simp only [Act.put, List.setIfInBounds_toArray, List.set_cons_zero, List.set_cons_succ]
              refine hTake (i := 7) (v := ?_) rfl (by kernel_rfl) (by kernel_rfl) (by kernel_rfl) (by rfl) ?_ hH ?_
              rotate_left
              · intro W hW; (try dsimp only at hW); go_simp <;> with_reducible rfl
              simp only [Act.put, List.setIfInBounds_toArray, List.set_cons_zero, List.set_cons_succ]
              refine hTake (i := 8) (v := ?_) rfl (by kernel_rfl) (by kernel_rfl) (by kernel_rfl) (by rfl) ?_ hH ?_
              rotate_left
              · intro W hW; (try dsimp only at hW); go_simp <;> with_reducible rfl
              simp only [Act.put, List.setIfInBounds_toArray, List.set_cons_zero, List.set_cons_succ]
              refine hTake (i := 9) (v := ?_) rfl (by kernel_rfl) (by kernel_rfl) (by kernel_rfl) (by rfl) ?_ hH ?_
              rotate_left
              · intro W hW; (try dsimp only at hW); go_simp <;> with_reducible rfl
              simp only [Act.put, List.setIfInBounds_toArray, List.set_cons_zero, List.set_cons_succ]
              refine hTake (i := 10) (v := ?_) rfl (by kernel_rfl) (by kernel_rfl) (by kernel_rfl) (by rfl) ?_ hH ?_
              rotate_left
              · intro W hW; (try dsimp only at hW); go_simp <;> with_reducible rfl
              simp only [Act.put, List.setIfInBounds_toArray, List.set_cons_zero, List.set_cons_succ]
              refine hTake (i := 11) (v := ?_) rfl (by kernel_rfl) (by kernel_rfl) (by kernel_rfl) (by rfl) ?_ hH ?_
              rotate_left
              · intro W hW; (try dsimp only at hW); go_simp <;> with_reducible rfl
              simp only [Act.put, List.setIfInBounds_toArray, List.set_cons_zero, List.set_cons_succ]
              refine hTake (i := 12) (v := ?_) rfl (by kernel_rfl) (by kernel_rfl) (by kernel_rfl) (by rfl) ?_ hH ?_
              rotate_left
              · intro W hW; (try dsimp only at hW); go_simp <;> with_reducible rfl
              simp only [Act.put, List.setIfInBounds_toArray, List.set_cons_zero, List.set_cons_succ]
              refine hTake (i := 13) (v := ?_) rfl (by kernel_rfl) (by kernel_rfl) (by kernel_rfl) (by rfl) ?_ hH ?_
              rotate_left
              · intro W hW; (try dsimp only at hW); go_simp <;> with_reducible rfl
              simp only [Act.put, List.setIfInBounds_toArray, List.set_cons_zero, List.set_cons_succ]
              refine hTake (i := 14) (v := ?_) rfl (by kernel_rfl) (by kernel_rfl) (by kernel_rfl) (by rfl) ?_ hH ?_
              rotate_left
              · intro W hW; (try dsimp only at hW); go_simp <;> with_reducible rfl
              simp only [Act.put, List.setIfInBounds_toArray, List.set_cons_zero, List.set_cons_succ]
              refine hTake (i := 15) (v := ?_) rfl (by kernel_rfl) (by kernel_rfl) (by kernel_rfl) (by rfl) ?_ hH ?_
              rotate_left
              · intro W hW; (try dsimp only at hW); go_simp <;> with_reducible rfl
              simp only [Act.put, List.setIfInBounds_toArray, List.set_cons_zero, List.set_cons_succ]
              refine wpAnyH_done (by kernel_rfl) ?_ _
              refine NoPanic.normal ?_
              go_wp2_with fail
              refine (IL _ (hl.below (Below.refl _ _).drew)).mono ?_
              rintro e w2 ⟨rfl, b2⟩
              go_wp2
              go_ret
              exact ⟨ret_int (by rw [HN.out, HCF.out]), hH.2.2.trans (b2.mono hH.2.2.size)⟩
    · obtain rfl : k = n := by omega
      have HR2 := hid (HR.out.trans (Ch.lksGo_end rfl))
      have HAll : Hid (∀ i, i < ls.length → Ch.lockFault (Ch.lkAt ls i) = 0) := fun i hi => (Ch.one_good (HA.out i (by have := HL.out; omega))).2.2.2
      have HX := hid (Ch.cross_twice (ls := ls) (fun i hi => (Ch.lock_good (HAll.out i hi)).2.2.2.2.2.1))
      have HY : Hid ((List.range ls.length).any (Ch.crossRow ls) = true → Ch.locksFault ls = 10) := fun hx => by rw [HR2.out, HX.out, hx]; rfl
      have HZ : Hid ((List.range ls.length).any (Ch.crossRow ls) = false → Ch.locksFault ls = 0) := fun hx => by rw [HR2.out, HX.out, hx]; rfl
      clear HR HR2 HX
      rename_i w0
      go_wp2
      go_loopw [5] (fun i wr => ∃ k' : Nat, k' ≤ k ∧ i = .int .i64 k' ∧ Hid (∀ j, j < k' → Ch.crossRow ls j = false) ∧ Below w.heap.size w wr) (fun i _ => k - (intOf i).toNat)
      case atStart => exact ⟨0, Nat.zero_le _, rfl, (fun j hj => by omega), hB⟩
      case round =>
        clear hB
        obtain ⟨i, hi, rfl, HC, hB⟩ := hrel
        by_cases hlti : i < k
        · obtain ⟨b, off, ah, nh, ch, aq, nq, cq, rfl, hl⟩ := h.lock hlti
          have hil : i < ls.length := by have := HL.out; omega
          have c2 := hl.2.2.1
          have h4 := hl.2.2.2.2.1
          have hQ4 := h4.hlen
          have HSz := hid (Ch.lk_one hs i)
          have hnq : nq ≤ 1048576 := by have := HSz.out; have := hQ4.out; omega
          clear hl
          rename_i w1
          go_wp2
          go_loopw [6] (fun i2 wr => ∃ x : Nat, x ≤ nq ∧ i2 = .int .i64 x ∧ Hid (∀ y, y < x → ((List.range i).any fun j => Ch.hasH (Ch.lkAt ls j).qs ((Ch.lkAt ls i).qs.getD y Ch.Hold.zero).t) = false) ∧ Below w.heap.size w wr) (fun i2 _ => nq - (intOf i2).toNat)
          case atStart => exact ⟨0, Nat.zero_le _, rfl, (fun j hj => by omega), hB⟩
          case round =>
            clear hB
            obtain ⟨x, hx, rfl, HD, hB⟩ := hrel
            have c2 := keep_cell hB c2
            have hbl := lt_of_cell c2
            by_cases hltx : x < nq
            · have hxl : x < (Ch.lkAt ls i).qs.length := by have := hQ4.out; omega
              have HHit := hid (fun j hj he => HY.out (Ch.cross_hit (j := j) hil hxl hj he))
              have HND := hid (fun he => Ch.step_none (p := fun y => (List.range i).any fun j => Ch.hasH (Ch.lkAt ls j).qs ((Ch.lkAt ls i).qs.getD y Ch.Hold.zero).t) HD.out he)
              obtain ⟨qb, qo, rfl, q0, _⟩ := h4.hold hltx
              clear HD
              generalize ((Ch.lkAt ls i).qs.getD x Ch.Hold.zero).t = rt at *
              rename_i w2
              go_wp2
              go_loopw [7] (fun i3 wr => ∃ j : Nat, j ≤ i ∧ i3 = .int .i64 j ∧ Hid (∀ y, y < j → Ch.hasH (Ch.lkAt ls y).qs rt = false) ∧ Below w.heap.size w wr) (fun i3 _ => i - (intOf i3).toNat)
              case atStart => exact ⟨0, Nat.zero_le _, rfl, (fun j hj => by omega), hB⟩
              case round =>
                clear hB c2
                obtain ⟨j, hj, rfl, HE, hB⟩ := hrel
                by_cases hltj : j < i
                · have HNE := hid (fun he => Ch.step_none (p := fun y => Ch.hasH (Ch.lkAt ls y).qs rt) HE.out he)
                  obtain ⟨b', off', _, _, _, aj, nj, cj, hbo, hlj⟩ := (h.below hB).lock (show j < k by omega)
                  simp only [Option.some.injEq, Addr.mk.injEq, and_true] at hbo
                  obtain ⟨rfl, rfl⟩ := hbo
                  have g2 := hlj.2.2.1
                  have g4 := hlj.2.2.2.2.1
                  have hJ4 := g4.hlen
                  have HSj := hid (Ch.lk_one hs j)
                  have hnj : nj ≤ 1048576 := by have := HSj.out; have := hJ4.out; omega
                  obtain ⟨b', off', _, _, _, _, _, _, hbo, hli⟩ := h.lock hlti
                  simp only [Option.some.injEq, Addr.mk.injEq, and_true] at hbo
                  obtain ⟨rfl, rfl⟩ := hbo
                  clear hlj hli HE
                  have hjk : j < k := by omega
                  have c2 := keep_cell hB ‹w.cell? ⟨b, off + i * 3 + 2, none⟩ = some (.slice (some ⟨qb, qo, none⟩) nq cq)›
                  have q0 := keep_cell hB q0
                  rcases Ch.atH_cases (Ch.lkAt ls j).qs rt with ⟨he, HAT, _⟩ | ⟨p, hp, HAT, he, _⟩
                  · have HN := hid he
                    clear he
                    go_wp2_with fail
                    refine wp_region_noPanic ?_
                    refine wp_region_held_drew (S := fun W' => W'.cell? ⟨b, off + j * 3 + 2, none⟩ = some (.slice aj nj cj) ∧ W'.cell? ⟨b, off + i * 3 + 2, none⟩ = some (.slice (some ⟨qb, qo, none⟩) nq cq) ∧ W'.cell? ⟨qb, qo + x * 2, none⟩ = some (.int .i64 rt) ∧ CellsAt W' aj (nj * 2) (hcells (Ch.lkAt ls j).qs) ∧ Below w.heap.size w W') (by kernel_rfl) (⟨g2, c2, q0, g4.below (Below.refl _ _).drew, hB.drew⟩) (fun hH => ?_)
                    refine hTake (i := 0) (v := ?_) rfl (by kernel_rfl) (by kernel_rfl) (by kernel_rfl) (by rfl) ?_ hH ?_
                    rotate_left
                    · intro W hW; (try dsimp only at hW); go_simp <;> with_reducible rfl
                    simp only [Act.put, List.setIfInBounds_toArray, List.set_cons_zero, List.set_cons_succ]
                    refine hTake (i := 1) (v := ?_) rfl (by kernel_rfl) (by kernel_rfl) (by kernel_rfl) (by rfl) ?_ hH ?_
                    rotate_left
                    · intro W hW; (try dsimp only at hW); go_simp <;> with_reducible rfl
                    simp only [Act.put, List.setIfInBounds_toArray, List.set_cons_zero, List.set_cons_succ]
                    refine hTake (i := 2) (v := ?_) rfl (by kernel_rfl) (by kernel_rfl) (by kernel_rfl) (by rfl) ?_ hH ?_
                    rotate_left
                    · intro W hW; (try dsimp only at hW); go_simp <;> with_reducible rfl
                    simp only [Act.put, List.setIfInBounds_toArray, List.set_cons_zero, List.set_cons_succ]
                    refine hTake (i := 3) (v := ?_) rfl (by kernel_rfl) (by kernel_rfl) (by kernel_rfl) (by rfl) ?_ hH ?_
                    rotate_left
                    · intro W hW; (try dsimp only at hW); go_simp <;> with_reducible rfl
                    simp only [Act.put, List.setIfInBounds_toArray, List.set_cons_zero, List.set_cons_succ]
                    refine hTake (i := 4) (v := ?_) rfl (by kernel_rfl) (by kernel_rfl) (by kernel_rfl) (by rfl) ?_ hH ?_
                    rotate_left
                    · intro W hW; (try dsimp only at hW); go_simp <;> with_reducible rfl
                    simp only [Act.put, List.setIfInBounds_toArray, List.set_cons_zero, List.set_cons_succ]
                    refine hTake (i := 5) (v := ?_) rfl (by kernel_rfl) (by kernel_rfl) (by kernel_rfl) (by rfl) ?_ hH ?_
                    rotate_left
                    · intro W hW; (try dsimp only at hW); go_simp <;> with_reducible rfl
                    simp only [Act.put, List.setIfInBounds_toArray, List.set_cons_zero, List.set_cons_succ]
                    refine hTake (i := 6) (v := ?_) rfl (by kernel_rfl) (by kernel_rfl) (by kernel_rfl) (by rfl) ?_ hH ?_
                    rotate_left
                    · intro W hW; (try dsimp only at hW); go_simp <;> with_reducible rfl
                    simp only [Act.put, List.setIfInBounds_toArray, List.set_cons_zero, List.set_cons_succ]
                    refine hTake (i := 7) (v := ?_) rfl (by kernel_rfl) (by kernel_rfl) (by kernel_rfl) (by rfl) ?_ hH ?_
                    rotate_left
                    · intro W hW; (try dsimp only at hW); go_simp <;> with_reducible rfl
                    simp only [Act.put, List.setIfInBounds_toArray, List.set_cons_zero, List.set_cons_succ]
                    refine hTake (i := 8) (v := ?_) rfl (by kernel_rfl) (by kernel_rfl) (by kernel_rfl) (by rfl) ?_ hH ?_
                    rotate_left
                    · intro W hW; (try dsimp only at hW); go_simp <;> with_reducible rfl
                    simp only [Act.put, List.setIfInBounds_toArray, List.set_cons_zero, List.set_cons_succ]
                    refine hTake (i := 9) (v := ?_) rfl (by kernel_rfl) (by kernel_rfl) (by kernel_rfl) (by rfl) ?_ hH ?_
                    rotate_left
                    · intro W hW; (try dsimp only at hW); go_simp <;> with_reducible rfl
                    simp only [Act.put, List.setIfInBounds_toArray, List.set_cons_zero, List.set_cons_succ]
                    refine hTake (i := 10) (v := ?_) rfl (by kernel_rfl) (by kernel_rfl) (by kernel_rfl) (by rfl) ?_ hH ?_
                    rotate_left
                    · intro W hW; (try dsimp only at hW); go_simp <;> with_reducible rfl
                    simp only [Act.put, List.setIfInBounds_toArray, List.set_cons_zero, List.set_cons_succ]
                    refine hTake (i := 11) (v := ?_) rfl (by kernel_rfl) (by kernel_rfl) (by kernel_rfl) (by rfl) ?_ hH ?_
                    rotate_left
                    · intro W hW; (try dsimp only at hW); go_simp <;> with_reducible rfl
                    simp only [Act.put, List.setIfInBounds_toArray, List.set_cons_zero, List.set_cons_succ]
                    refine hTake (i := 12) (v := ?_) rfl (by kernel_rfl) (by kernel_rfl) (by kernel_rfl) (by rfl) ?_ hH ?_
                    rotate_left
                    · intro W hW; (try dsimp only at hW); go_simp <;> with_reducible rfl
                    simp only [Act.put, List.setIfInBounds_toArray, List.set_cons_zero, List.set_cons_succ]
                    refine hTake (i := 13) (v := ?_) rfl (by kernel_rfl) (by kernel_rfl) (by kernel_rfl) (by rfl) ?_ hH ?_
                    rotate_left
                    · intro W hW; (try dsimp only at hW); go_simp <;> with_reducible rfl
                    simp only [Act.put, List.setIfInBounds_toArray, List.set_cons_zero, List.set_cons_succ]
                    refine wpAnyH_ready (rs := [14]) (by kernel_rfl) (by simp) ?_
                    refine AllReadyH.cons rfl (fun K hK => ?_) AllReadyH.nil
                    go_simp
                    refine (l6At_any aj nj cj rt (Ch.lkAt ls j).qs _ hH.2.2.2.1 hnj).mono ?_
                    rintro e w2 ⟨rfl, rfl⟩
                    rw [HAT]
                    go_wp2_with fail
                    refine hK.out _ _ ?_ (fun hH => ?_)
                    · exact hH
                    clear hK K
                    refine hTake (i := 15) (v := ?_) rfl (by kernel_rfl) (by kernel_rfl) (by kernel_rfl) (by rfl) ?_ hH ?_
                    rotate_left
                    · intro W hW; (try dsimp only at hW); go_simp <;> with_reducible rfl
                    simp only [Act.put, List.setIfInBounds_toArray, List.set_cons_zero, List.set_cons_succ]
                    refine wpAnyH_done (by kernel_rfl) ?_ _
                    refine NoPanic.normal ?_
                    go_wp2
                    go_roundw
                    case rel => exact ⟨j + 1, by omega, by go_num, HNE.out HN.out, hH.2.2.2.2⟩
                    case measure => simp [intOf]; omega
                  · have HN := hid he
                    clear he
                    go_wp2_with fail
                    refine wp_region_noPanic ?_
                    refine wp_region_held_drew (S := fun W' => W'.cell? ⟨b, off + j * 3 + 2, none⟩ = some (.slice aj nj cj) ∧ W'.cell? ⟨b, off + i * 3 + 2, none⟩ = some (.slice (some ⟨qb, qo, none⟩) nq cq) ∧ W'.cell? ⟨qb, qo + x * 2, none⟩ = some (.int .i64 rt) ∧ CellsAt W' aj (nj * 2) (hcells (Ch.lkAt ls j).qs) ∧ Below w.heap.size w W') (by kernel_rfl) (⟨g2, c2, q0, g4.below (Below.refl _ _).drew, hB.drew⟩) (fun hH => ?_)
                    refine hTake (i := 0) (v := ?_) rfl (by kernel_rfl) (by kernel_rfl) (by kernel_rfl) (by rfl) ?_ hH ?_
                    rotate_left
                    · intro W hW; (try dsimp only at hW); go_simp <;> with_reducible rfl
                    simp only [Act.put, List.setIfInBounds_toArray, List.set_cons_zero, List.set_cons_succ]
                    refine hTake (i := 1) (v := ?_) rfl (by kernel_rfl) (by kernel_rfl) (by kernel_rfl) (by rfl) ?_ hH ?_
                    rotate_left
                    · intro W hW; (try dsimp only at hW); go_simp <;> with_reducible rfl
                    simp only [Act.put, List.setIfInBounds_toArray, List.set_cons_zero, List.set_cons_succ]
                    refine hTake (i := 2) (v := ?_) rfl (by kernel_rfl) (by kernel_rfl) (by kernel_rfl) (by rfl) ?_ hH ?_
                    rotate_left
                    · intro W hW; (try dsimp only at hW); go_simp <;> with_reducible rfl
                    simp only [Act.put, List.setIfInBounds_toArray, List.set_cons_zero, List.set_cons_succ]
                    refine hTake (i := 3) (v := ?_) rfl (by kernel_rfl) (by kernel_rfl) (by kernel_rfl) (by rfl) ?_ hH ?_
                    rotate_left
                    · intro W hW; (try dsimp only at hW); go_simp <;> with_reducible rfl
                    simp only [Act.put, List.setIfInBounds_toArray, List.set_cons_zero, List.set_cons_succ]
                    refine hTake (i := 4) (v := ?_) rfl (by kernel_rfl) (by kernel_rfl) (by kernel_rfl) (by rfl) ?_ hH ?_
                    rotate_left
                    · intro W hW; (try dsimp only at hW); go_simp <;> with_reducible rfl
                    simp only [Act.put, List.setIfInBounds_toArray, List.set_cons_zero, List.set_cons_succ]
                    refine hTake (i := 5) (v := ?_) rfl (by kernel_rfl) (by kernel_rfl) (by kernel_rfl) (by rfl) ?_ hH ?_
                    rotate_left
                    · intro W hW; (try dsimp only at hW); go_simp <;> with_reducible rfl
                    simp only [Act.put, List.setIfInBounds_toArray, List.set_cons_zero, List.set_cons_succ]
                    refine hTake (i := 6) (v := ?_) rfl (by kernel_rfl) (by kernel_rfl) (by kernel_rfl) (by rfl) ?_ hH ?_
                    rotate_left
                    · intro W hW; (try dsimp only at hW); go_simp <;> with_reducible rfl
                    simp only [Act.put, List.setIfInBounds_toArray, List.set_cons_zero, List.set_cons_succ]
                    refine hTake (i := 7) (v := ?_) rfl (by kernel_rfl) (by kernel_rfl) (by kernel_rfl) (by rfl) ?_ hH ?_
                    rotate_left
                    · intro W hW; (try dsimp only at hW); go_simp <;> with_reducible rfl
                    simp only [Act.put, List.setIfInBounds_toArray, List.set_cons_zero, List.set_cons_succ]
                    refine hTake (i := 8) (v := ?_) rfl (by kernel_rfl) (by kernel_rfl) (by kernel_rfl) (by rfl) ?_ hH ?_
                    rotate_left
                    · intro W hW; (try dsimp only at hW); go_simp <;> with_reducible rfl
                    simp only [Act.put, List.setIfInBounds_toArray, List.set_cons_zero, List.set_cons_succ]
                    refine hTake (i := 9) (v := ?_) rfl (by kernel_rfl) (by kernel_rfl) (by kernel_rfl) (by rfl) ?_ hH ?_
                    rotate_left
                    · intro W hW; (try dsimp only at hW); go_simp <;> with_reducible rfl
                    simp only [Act.put, List.setIfInBounds_toArray, List.set_cons_zero, List.set_cons_succ]
                    refine hTake (i := 10) (v := ?_) rfl (by kernel_rfl) (by kernel_rfl) (by kernel_rfl) (by rfl) ?_ hH ?_
                    rotate_left
                    · intro W hW; (try dsimp only at hW); go_simp <;> with_reducible rfl
                    simp only [Act.put, List.setIfInBounds_toArray, List.set_cons_zero, List.set_cons_succ]
                    refine hTake (i := 11) (v := ?_) rfl (by kernel_rfl) (by kernel_rfl) (by kernel_rfl) (by rfl) ?_ hH ?_
                    rotate_left
                    · intro W hW; (try dsimp only at hW); go_simp <;> with_reducible rfl
                    simp only [Act.put, List.setIfInBounds_toArray, List.set_cons_zero, List.set_cons_succ]
                    refine hTake (i := 12) (v := ?_) rfl (by kernel_rfl) (by kernel_rfl) (by kernel_rfl) (by rfl) ?_ hH ?_
                    rotate_left
                    · intro W hW; (try dsimp only at hW); go_simp <;> with_reducible rfl
                    simp only [Act.put, List.setIfInBounds_toArray, List.set_cons_zero, List.set_cons_succ]
                    refine hTake (i := 13) (v := ?_) rfl (by kernel_rfl) (by kernel_rfl) (by kernel_rfl) (by rfl) ?_ hH ?_
                    rotate_left
                    · intro W hW; (try dsimp only at hW); go_simp <;> with_reducible rfl
                    simp only [Act.put, List.setIfInBounds_toArray, List.set_cons_zero, List.set_cons_succ]
                    refine wpAnyH_ready (rs := [14]) (by kernel_rfl) (by simp) ?_
                    refine AllReadyH.cons rfl (fun K hK => ?_) AllReadyH.nil
                    go_simp
                    refine (l6At_any aj nj cj rt (Ch.lkAt ls j).qs _ hH.2.2.2.1 hnj).mono ?_
                    rintro e w2 ⟨rfl, rfl⟩
                    rw [HAT]
                    go_wp2_with fail
                    refine hK.out _ _ ?_ (fun hH => ?_)
                    · exact hH
                    clear hK K
                    refine hTake (i := 15) (v := ?_) rfl (by kernel_rfl) (by kernel_rfl) (by kernel_rfl) (by rfl) ?_ hH ?_
                    rotate_left
                    · intro W hW; (try dsimp only at hW); go_simp <;> with_reducible rfl
                    simp only [Act.put, List.setIfInBounds_toArray, List.set_cons_zero, List.set_cons_succ]
                    refine wpAnyH_done (by kernel_rfl) ?_ _
                    refine NoPanic.normal ?_
                    go_wp2
                    go_ret
                    exact ⟨ret_int (HHit.out j hltj HN.out).symm, hH.2.2.2.2⟩
                · obtain rfl : j = i := by omega
                  go_wp2
                  go_roundw
                  case rel => exact ⟨x + 1, by omega, by go_num, HND.out (Ch.range_any_false HE.out), hB⟩
                  case measure => simp [intOf]; omega
            · obtain rfl : x = nq := by omega
              go_wp2
              go_roundw
              case rel => exact ⟨i + 1, by omega, by go_num, Ch.step_none HC.out (Ch.crossRow_false (by have := hQ4.out; rw [← this]; exact HD.out)), hB⟩
              case measure => simp [intOf]; omega
        · obtain rfl : i = k := by omega
          go_wp2
          go_ret
          exact ⟨ret_int (HZ.out (Ch.range_any_false (by have := HL.out; rw [← this]; exact HC.out))).symm, hB⟩

end Go.Proofs.Ytjagobcogkdfhaa


/- LocksFault of the program. -/
namespace Go.Proofs.Ytjagobcogkdfhaa
open Go.RowKit Go.Maps

theorem Ch.waiters_next (ls : List Ch.Lock) (k : Nat) (h : k < ls.length) : Ch.waiters (ls.take (k + 1)) = Ch.waiters (ls.take k) ++ (Ch.lkAt ls k).qs := by
  unfold Ch.waiters Ch.lkAt
  rw [Ch.take_snoc ls Ch.Lock.zero k h]; simp
theorem Ch.waiters_sum (ls : List Ch.Lock) : (Ch.waiters ls).length ≤ Ch.lkSum ls := by
  unfold Ch.waiters Ch.lkSum
  induction ls with
  | nil => simp
  | cons l ls ih => simp only [List.flatMap_cons, List.length_append, List.map_cons, List.sum_cons]; omega
theorem Ch.waiters_small {ls : List Ch.Lock} (hs : Ch.lkSize ls ≤ 1048576) (k : Nat) : (Ch.waiters (ls.take k)).length ≤ 1048576 := by
  have h1 := Ch.waiters_sum (ls.take k)
  have h2 := Ch.lk_le ls k
  unfold Ch.lkSize at hs
  omega
theorem Ch.waiters_names {ls : List Ch.Lock} (k : Nat) (hk : k ≤ ls.length) (h : ∀ j, j < k → Ch.lkOne ls j = 0) : Ch.namesH (Ch.waiters (ls.take k)) = true := by
  induction k with
  | zero => rfl
  | succ k ih =>
    rw [Ch.waiters_next ls k (by omega)]
    unfold Ch.namesH
    rw [List.all_append]
    have h1 := ih (by omega) (fun j hj => h j (by omega))
    have h2 := (Ch.lock_good (Ch.one_good (h k (by omega))).2.2.2).2.2.2.1
    unfold Ch.namesH at h1 h2
    rw [h1, h2]; rfl
theorem hcells_one' (hs : List Ch.Hold) : ∀ u ∈ hcells hs, u.oneCell' = true := by
  intro x hx
  simp only [hcells, List.mem_flatMap] at hx
  obtain ⟨r, _, hx⟩ := hx
  simp at hx
  rcases hx with rfl | rfl <;> rfl
theorem owns_hlen {w : World} {B : Nat} {v : Value} {n : Nat} {hs : List Ch.Hold} (h : w.ownsRow B 131 2 v n (hcells hs)) : Hid (n = hs.length) := by
  have := h.1
  rw [hcells_len] at this
  exact (by omega : n = hs.length)

set_option maxRecDepth 20000 in
set_option maxHeartbeats 4000000 in
theorem implLocks_any (a : Option Addr) (n cap : Nat) (ls : List Ch.Lock) (w : World) (h : LkAt w a n ls) (hs : Ch.lkSize ls ≤ 1048576) :
    Calls Try.prog 89 #[.slice a n cap] w fun e w' => e = .returned (.int .i64 (Ch.locksFault ls)) ∧ Below w.heap.size w w' := by
  have HL := h.len
  have hn : n ≤ 1048576 := by unfold Ch.lkSize at hs; have := HL.out; omega
  obtain ⟨i0, hi0, hz0, hz1, hz2⟩ := info_parts Try.info131
  go_enter Try.func89, Try.ntmps89
  go_wp2
  go_loopw [3, 9] (fun q i wr => ∃ (k m : Nat) (a' : Option Addr) (c' : Nat), k ≤ n ∧ i = .int .i64 k ∧ q = .slice a' m c' ∧ wr.ownsRow w.heap.size 131 2 (.slice a' m c') m (hcells (Ch.waiters (ls.take k))) ∧ m ≤ 1048576 ∧ Hid (Ch.locksFault ls = Ch.lksGo ls (n - k) k) ∧ Hid (∀ j, j < k → Ch.lkOne ls j = 0) ∧ Below w.heap.size w wr) (fun _ i _ => n - (intOf i).toNat)
  case atStart => exact ⟨0, 0, none, 0, Nat.zero_le _, rfl, rfl, World.ownsRow_nil _ _ _ _, by omega, (by have := HL.out; subst this; rfl), (fun j hj => by omega), Below.refl _ _⟩
  case round =>
    obtain ⟨k, m, a', c', hk, rfl, rfl, own, hm, HR, HA, hB⟩ := hrel
    by_cases hlt : k < n
    · have HSz := hid (Ch.lk_one hs k)
      have HBad := hid (fun hb => HR.out.trans (Ch.lksGo_bad (ls := ls) hlt hb))
      have HNext := hid (fun hb => HR.out.trans (Ch.lksGo_next (ls := ls) hlt hb))
      have HRes := hid (fun hb => Ch.lkOne_res (ls := ls) (k := k) hb)
      have HLow := hid (fun hb h0 h1 => Ch.lkOne_low (ls := ls) (k := k) hb h0 h1)
      have HOwn := hid (fun hb h1 => Ch.lkOne_own (ls := ls) (k := k) hb h1)
      have HW := hid (Ch.waiters_next ls k (by have := HL.out; omega))
      generalize Ch.waiters (ls.take k) = WT at *
      obtain ⟨b, off, ah, nh, ch, aq, nq, cq, rfl, hl⟩ := (h.below hB).lock hlt
      have hH4 := hl.2.2.2.1.hlen
      have hQ4 := hl.2.2.2.2.1.hlen
      have hnh : nh ≤ 1048576 := by have := HSz.out; have := hH4.out; omega
      have hnq : nq ≤ 1048576 := by have := HSz.out; have := hQ4.out; omega
      have hbl0 := lt_of_cell hl.1
      have IR := fun W => isRes_any (Ch.lkAt ls k).r W
      have IL := fun W hW hW' => fault_any (Ch.lkAt ls k).r ah nh ch aq nq cq (Ch.lkAt ls k).hs (Ch.lkAt ls k).qs W hW hW' hnh hnq
      have HE : Hid ((⟨(Ch.lkAt ls k).r, (Ch.lkAt ls k).hs, (Ch.lkAt ls k).qs⟩ : Ch.Lock) = Ch.lkAt ls k) := rfl
      clear hH4 hQ4
      cases hr : Ch.inB (Ch.lkAt ls k).r 0 100
      all_goals rw [hr] at IR
      · have H3 := hid (HRes.out hr)
        have c0 := hl.1
        have c1 := hl.2.1
        have c2 := hl.2.2.1
        clear IL HE
        generalize (Ch.lkAt ls k).r = rk at *
        go_wp2_with fail
        refine (IR _).mono ?_
        rintro e w1 ⟨rfl, hw1⟩
        obtain rfl := hw1.symm
        go_wp2
        go_ret
        exact ⟨ret_int (by rw [HBad.out (by rw [H3.out]; rfl), H3.out]), hB.alloc hB.size _⟩
      · by_cases hlow : 0 < k ∧ (Ch.lkAt ls k).r ≤ (Ch.lkAt ls (k - 1)).r
        · obtain ⟨j, rfl⟩ : ∃ j, k = j + 1 := ⟨k - 1, by omega⟩
          have H3 := hid (HLow.out hr hlow.1 hlow.2)
          clear hr HE
          have hle := hlow.2
          rw [show j + 1 - 1 = j from rfl] at hle
          obtain ⟨b', off', _, _, _, _, _, _, hbo, hj⟩ := (h.below hB).lock (show j < n by omega)
          simp only [Option.some.injEq, Addr.mk.injEq, and_true] at hbo
          obtain ⟨rfl, rfl⟩ := hbo
          have p0 := hj.1
          have c0 := hl.1
          have c1 := hl.2.1
          have c2 := hl.2.2.1
          have h3 := hl.2.2.2.1
          have h4 := hl.2.2.2.2.1
          clear hj hlow HRes HLow HOwn
          generalize (Ch.lkAt ls j).r = rj at *
          generalize Ch.lkAt ls (j + 1) = l at *
          obtain ⟨rk, lhs, lqs⟩ := l
          simp only at c0 c1 c2 h3 h4 IL HW HSz IR hle
          have hd : decide ((0 : Int) < ((j + 1 : Nat) : Int)) = true := by simp
          have hwj : IntKind.i64.wrap (j : Int) = (j : Int) := IntWalk.i64_in _ ⟨by omega, by omega⟩
          have hj0 : (0 : Int) ≤ (j : Int) := by omega
          have hjn : (j : Int) < (n : Int) := by omega
          have hj1 : (0 : Int) ≤ (j : Int) + 1 := by omega
          have hj2 : (j : Int) + 1 < (n : Int) := by omega
          have hbl := lt_of_cell c0
          have kW : ∀ o, Below wr.heap.size wr (wr.alloc o) := fun o => (Below.refl _ _).alloc (Nat.le_refl _) o
          have z0 : (wr.alloc (.cells #[.int .i64 rk, .slice ah nh ch, .slice aq nq cq] 129)).cell? ⟨wr.heap.size, 0, none⟩ = some (.int .i64 rk) := by simp [go_sem]
          go_wp2_with fail
          refine (IR _).mono ?_
          rintro e w1 ⟨rfl, hw1⟩
          obtain rfl := hw1.symm
          go_wp2_with fail
          refine wp_region_noPanic ?_
          refine wp_region_held_drew (S := fun W' => W'.cell? ⟨wr.heap.size, 0, none⟩ = some (.int .i64 rk) ∧ W'.cell? ⟨b, off + j * 3, none⟩ = some (.int .i64 rj) ∧ Below (wr.alloc (.cells #[.int .i64 rk, .slice ah nh ch, .slice aq nq cq] 129)).heap.size (wr.alloc (.cells #[.int .i64 rk, .slice ah nh ch, .slice aq nq cq] 129)) W') (by kernel_rfl) (⟨z0, keep_cell (kW _) p0, (Below.refl _ _).drew⟩) (fun hH => ?_)
          refine hTake (i := 0) (v := ?_) rfl (by kernel_rfl) (by kernel_rfl) (by kernel_rfl) (by rfl) ?_ hH ?_
          rotate_left
          · intro W hW; (try dsimp only at hW); go_simp <;> with_reducible rfl
          simp only [Act.put, List.setIfInBounds_toArray, List.set_cons_zero, List.set_cons_succ]
          refine hTake (i := 1) (v := ?_) rfl (by kernel_rfl) (by kernel_rfl) (by kernel_rfl) (by rfl) ?_ hH ?_
          rotate_left
          · intro W hW; (try dsimp only at hW); go_simp <;> with_reducible rfl
          simp only [Act.put, List.setIfInBounds_toArray, List.set_cons_zero, List.set_cons_succ]
          refine hTake (i := 2) (v := ?_) rfl (by kernel_rfl) (by kernel_rfl) (by kernel_rfl) (by rfl) ?_ hH ?_
          rotate_left
          · intro W hW; (try dsimp only at hW); go_simp <;> with_reducible rfl
          simp only [Act.put, List.setIfInBounds_toArray, List.set_cons_zero, List.set_cons_succ]
          refine hTake (i := 3) (v := ?_) rfl (by kernel_rfl) (by kernel_rfl) (by kernel_rfl) (by rfl) ?_ hH ?_
          rotate_left
          · intro W hW; (try dsimp only at hW); go_simp <;> with_reducible rfl
          simp only [Act.put, List.setIfInBounds_toArray, List.set_cons_zero, List.set_cons_succ]
          refine hTake (i := 4) (v := ?_) rfl (by kernel_rfl) (by kernel_rfl) (by kernel_rfl) (by rfl) ?_ hH ?_
          rotate_left
          · intro W hW; (try dsimp only at hW); go_simp <;> with_reducible rfl
          simp only [Act.put, List.setIfInBounds_toArray, List.set_cons_zero, List.set_cons_succ]
          refine hTake (i := 5) (v := ?_) rfl (by kernel_rfl) (by kernel_rfl) (by kernel_rfl) (by rfl) ?_ hH ?_
          rotate_left
          · intro W hW; (try dsimp only at hW); go_simp <;> with_reducible rfl
          simp only [Act.put, List.setIfInBounds_toArray, List.set_cons_zero, List.set_cons_succ]
          refine hTake (i := 6) (v := ?_) rfl (by kernel_rfl) (by kernel_rfl) (by kernel_rfl) (by rfl) ?_ hH ?_
          rotate_left
          · intro W hW; (try dsimp only at hW); go_simp <;> with_reducible rfl
          simp only [Act.put, List.setIfInBounds_toArray, List.set_cons_zero, List.set_cons_succ]
          refine hTake (i := 7) (v := ?_) rfl (by kernel_rfl) (by kernel_rfl) (by kernel_rfl) (by rfl) ?_ hH ?_
          rotate_left
          · intro W hW; (try dsimp only at hW); go_simp <;> with_reducible rfl
          simp only [Act.put, List.setIfInBounds_toArray, List.set_cons_zero, List.set_cons_succ]
          refine hTake (i := 8) (v := ?_) rfl (by kernel_rfl) (by kernel_rfl) (by kernel_rfl) (by rfl) ?_ hH ?_
          rotate_left
          · intro W hW; (try dsimp only at hW); go_simp <;> with_reducible rfl
          simp only [Act.put, List.setIfInBounds_toArray, List.set_cons_zero, List.set_cons_succ]
          refine hTake (i := 9) (v := ?_) rfl (by kernel_rfl) (by kernel_rfl) (by kernel_rfl) (by rfl) ?_ hH ?_
          rotate_left
          · intro W hW; (try dsimp only at hW); go_simp <;> with_reducible rfl
          simp only [Act.put, List.setIfInBounds_toArray, List.set_cons_zero, List.set_cons_succ]
          refine hTake (i := 10) (v := ?_) rfl (by kernel_rfl) (by kernel_rfl) (by kernel_rfl) (by rfl) ?_ hH ?_
          rotate_left
          · intro W hW; (try dsimp only at hW); go_simp <;> with_reducible rfl
          simp only [Act.put, List.setIfInBounds_toArray, List.set_cons_zero, List.set_cons_succ]
          refine hTake (i := 11) (v := ?_) rfl (by kernel_rfl) (by kernel_rfl) (by kernel_rfl) (by rfl) ?_ hH ?_
          rotate_left
          · intro W hW; (try dsimp only at hW); go_simp <;> with_reducible rfl
          simp only [Act.put, List.setIfInBounds_toArray, List.set_cons_zero, List.set_cons_succ]
          refine hTake (i := 12) (v := ?_) rfl (by kernel_rfl) (by kernel_rfl) (by kernel_rfl) (by rfl) ?_ hH ?_
          rotate_left
          · intro W hW; (try dsimp only at hW); go_simp <;> with_reducible rfl
          simp only [Act.put, List.setIfInBounds_toArray, List.set_cons_zero, List.set_cons_succ]
          refine wpAnyH_done (by kernel_rfl) ?_ _
          refine NoPanic.normal ?_
          go_wp2
          go_ret
          exact ⟨ret_int (by rw [HBad.out (by rw [H3.out]; rfl), H3.out]), hB.trans ((below_box hH.2.2).mono hB.size)⟩
        · have H3 := hid (HOwn.out hr hlow)
          rw [HE.out, ← H3.out] at IL
          clear HE hr
          cases hf : (Ch.lkOne ls k != 0)
          · have HN := hid (HNext.out hf)
            have HZ : Hid (Ch.lkOne ls k = 0) := by show _ = _; simpa using hf
            have HA' : Hid (∀ j, j < k + 1 → Ch.lkOne ls j = 0) := by
              intro j hj
              by_cases e : j = k
              · subst e; exact HZ.out
              · exact HA.out j (by omega)
            rw [HZ.out] at IL
            clear hf HZ H3 HBad HNext HR HA
            cases k with
            | zero =>
              clear HRes HLow HOwn hlow
              have hd : decide ((0 : Int) < ((0 : Nat) : Int)) = false := by simp
              simp only [Nat.zero_mul, Nat.add_zero] at hl
              have c0 := hl.1
              have c1 := hl.2.1
              have c2 := hl.2.2.1
              have h3 := hl.2.2.2.1
              have h4 := hl.2.2.2.2.1
              generalize Ch.lkAt ls 0 = l at *
              obtain ⟨rk, lhs, lqs⟩ := l
              simp only at c0 c1 c2 h3 h4 IL HW HSz IR
              have kW : ∀ o, Below wr.heap.size wr (wr.alloc o) := fun o => (Below.refl _ _).alloc (Nat.le_refl _) o
              have z0 : (wr.alloc (.cells #[.int .i64 rk, .slice ah nh ch, .slice aq nq cq] 129)).cell? ⟨wr.heap.size, 0, none⟩ = some (.int .i64 rk) := by simp [go_sem]
              go_wp2_with fail
              refine (IR _).mono ?_
              rintro e w1 ⟨rfl, hw1⟩
              obtain rfl := hw1.symm
              go_wp2_with fail
              refine wp_region_noPanic ?_
              refine wp_region_held_drew (S := fun W' => Below (wr.alloc (.cells #[.int .i64 rk, .slice ah nh ch, .slice aq nq cq] 129)).heap.size (wr.alloc (.cells #[.int .i64 rk, .slice ah nh ch, .slice aq nq cq] 129)) W') (by kernel_rfl) ((Below.refl _ _).drew) (fun hH => ?_)
              refine hTake (i := 0) (v := ?_) rfl (by kernel_rfl) (by kernel_rfl) (by kernel_rfl) (by rfl) ?_ hH ?_
              rotate_left
              · intro W hW; (try dsimp only at hW); go_simp <;> with_reducible rfl
              simp only [Act.put, List.setIfInBounds_toArray, List.set_cons_zero, List.set_cons_succ]
              refine hTake (i := 1) (v := ?_) rfl (by kernel_rfl) (by kernel_rfl) (by kernel_rfl) (by rfl) ?_ hH ?_
              rotate_left
              · intro W hW; (try dsimp only at hW); go_simp <;> with_reducible rfl
              simp only [Act.put, List.setIfInBounds_toArray, List.set_cons_zero, List.set_cons_succ]
              refine hTake (i := 2) (v := ?_) rfl (by kernel_rfl) (by kernel_rfl) (by kernel_rfl) (by rfl) ?_ hH ?_
              rotate_left
              · intro W hW; (try dsimp only at hW); go_simp <;> with_reducible rfl
              simp only [Act.put, List.setIfInBounds_toArray, List.set_cons_zero, List.set_cons_succ]
              refine hSkip (i := 3) rfl (by kernel_rfl) (by kernel_rfl) (by kernel_rfl) (by rfl) hH ?_
              simp only [Act.put, List.setIfInBounds_toArray, List.set_cons_zero, List.set_cons_succ]
              refine hSkip (i := 4) rfl (by kernel_rfl) (by kernel_rfl) (by kernel_rfl) (by rfl) hH ?_
              simp only [Act.put, List.setIfInBounds_toArray, List.set_cons_zero, List.set_cons_succ]
              refine hSkip (i := 5) rfl (by kernel_rfl) (by kernel_rfl) (by kernel_rfl) (by rfl) hH ?_
              simp only [Act.put, List.setIfInBounds_toArray, List.set_cons_zero, List.set_cons_succ]
              refine hSkip (i := 6) rfl (by kernel_rfl) (by kernel_rfl) (by kernel_rfl) (by rfl) hH ?_
              simp only [Act.put, List.setIfInBounds_toArray, List.set_cons_zero, List.set_cons_succ]
              refine hSkip (i := 7) rfl (by kernel_rfl) (by kernel_rfl) (by kernel_rfl) (by rfl) hH ?_
              simp only [Act.put, List.setIfInBounds_toArray, List.set_cons_zero, List.set_cons_succ]
              refine hSkip (i := 8) rfl (by kernel_rfl) (by kernel_rfl) (by kernel_rfl) (by rfl) hH ?_
              simp only [Act.put, List.setIfInBounds_toArray, List.set_cons_zero, List.set_cons_succ]
              refine hSkip (i := 9) rfl (by kernel_rfl) (by kernel_rfl) (by kernel_rfl) (by rfl) hH ?_
              simp only [Act.put, List.setIfInBounds_toArray, List.set_cons_zero, List.set_cons_succ]
              refine hSkip (i := 10) rfl (by kernel_rfl) (by kernel_rfl) (by kernel_rfl) (by rfl) hH ?_
              simp only [Act.put, List.setIfInBounds_toArray, List.set_cons_zero, List.set_cons_succ]
              refine hSkip (i := 11) rfl (by kernel_rfl) (by kernel_rfl) (by kernel_rfl) (by rfl) hH ?_
              simp only [Act.put, List.setIfInBounds_toArray, List.set_cons_zero, List.set_cons_succ]
              refine hTake (i := 12) (v := ?_) rfl (by kernel_rfl) (by kernel_rfl) (by kernel_rfl) (by rfl) ?_ hH ?_
              rotate_left
              · intro W hW; (try dsimp only at hW); go_simp <;> with_reducible rfl
              simp only [Act.put, List.setIfInBounds_toArray, List.set_cons_zero, List.set_cons_succ]
              refine wpAnyH_done (by kernel_rfl) ?_ _
              refine NoPanic.normal ?_
              have x0 := box_cell hH 0
              have x1 := box_cell hH 1
              have x2 := box_cell hH 2
              simp only [List.getElem?_toArray, List.getElem?_cons_zero, List.getElem?_cons_succ] at x0 x1 x2
              have bq := below_box hH
              clear hH
              go_wp2_with fail
              refine (viewLock_any rk ah nh ch aq nq cq _).mono ?_
              rintro e w3 ⟨rfl, b3⟩
              have bq := bq.trans (b3.mono bq.size)
              have x2 := keep_cell b3 x2
              clear b3 x0 x1
              go_wp2_with fail
              refine (IL _ (h3.below bq) (h4.below bq)).mono ?_
              rintro e w4 ⟨rfl, b4⟩
              have bq := bq.trans (b4.mono bq.size)
              have x2 := keep_cell b4 x2
              have lx := lt_of_cell x2
              clear b4
              have oN := owns_below own bq
              have hC := h4.below bq
              have hbase : w.heap.size ≤ w4.heap.size := Nat.le_trans hB.size bq.size
              have hsum : m + nq ≤ 4194304 := by omega
              clear IL IR
              go_wp2_with (at_builtin; go_must (refine wpList_appX Try.underlying177 Try.underlying127 hi0 hz0 hz1 hz2 rfl (by omega) (by omega) (.tmp 37) (.tmp 39) ?_ ?_ w.heap.size (.slice a' m c') m (hcells WT) aq nq cq (hcells lqs) ?_ ?_ oN hC (hcells_one' lqs) hsum hbase ?_; exact rfl; exact rfl; exact rfl; exact rfl; intro a5 c5 w5 own5 gr5 at5))
              go_roundw
              case rel =>
                rw [← hcells_append, ← HW.out] at own5
                refine ⟨0 + 1, m + nq, a5, c5, by omega, by go_num, rfl, own5, (by have h1 := (owns_hlen own5).out; have h2 := Ch.waiters_small hs (0 + 1); omega), HN.out, HA'.out, ?_⟩
                have b4' := hB.trans (bq.mono hB.size)
                exact b4'.grown gr5 b4'.size (fun g hg => (owns_lt oN g hg).1)
              case measure => simp [intOf]; omega
            | succ j =>
              have hle : ¬ (Ch.lkAt ls (j + 1)).r ≤ (Ch.lkAt ls j).r := fun h => hlow ⟨by omega, h⟩
              obtain ⟨b', off', _, _, _, _, _, _, hbo, hj⟩ := (h.below hB).lock (show j < n by omega)
              simp only [Option.some.injEq, Addr.mk.injEq, and_true] at hbo
              obtain ⟨rfl, rfl⟩ := hbo
              have p0 := hj.1
              have c0 := hl.1
              have c1 := hl.2.1
              have c2 := hl.2.2.1
              have h3 := hl.2.2.2.1
              have h4 := hl.2.2.2.2.1
              clear hj hlow HRes HLow HOwn
              generalize (Ch.lkAt ls j).r = rj at *
              generalize Ch.lkAt ls (j + 1) = l at *
              obtain ⟨rk, lhs, lqs⟩ := l
              simp only at c0 c1 c2 h3 h4 IL HW HSz IR hle
              have hd : decide ((0 : Int) < ((j + 1 : Nat) : Int)) = true := by simp
              have hwj : IntKind.i64.wrap (j : Int) = (j : Int) := IntWalk.i64_in _ ⟨by omega, by omega⟩
              have hj0 : (0 : Int) ≤ (j : Int) := by omega
              have hjn : (j : Int) < (n : Int) := by omega
              have hj1 : (0 : Int) ≤ (j : Int) + 1 := by omega
              have hj2 : (j : Int) + 1 < (n : Int) := by omega
              have hbl := lt_of_cell c0
              have kW : ∀ o, Below wr.heap.size wr (wr.alloc o) := fun o => (Below.refl _ _).alloc (Nat.le_refl _) o
              have z0 : (wr.alloc (.cells #[.int .i64 rk, .slice ah nh ch, .slice aq nq cq] 129)).cell? ⟨wr.heap.size, 0, none⟩ = some (.int .i64 rk) := by simp [go_sem]
              go_wp2_with fail
              refine (IR _).mono ?_
              rintro e w1 ⟨rfl, hw1⟩
              obtain rfl := hw1.symm
              go_wp2_with fail
              refine wp_region_noPanic ?_
              refine wp_region_held_drew (S := fun W' => W'.cell? ⟨wr.heap.size, 0, none⟩ = some (.int .i64 rk) ∧ W'.cell? ⟨b, off + j * 3, none⟩ = some (.int .i64 rj) ∧ Below (wr.alloc (.cells #[.int .i64 rk, .slice ah nh ch, .slice aq nq cq] 129)).heap.size (wr.alloc (.cells #[.int .i64 rk, .slice ah nh ch, .slice aq nq cq] 129)) W') (by kernel_rfl) (⟨z0, keep_cell (kW _) p0, (Below.refl _ _).drew⟩) (fun hH => ?_)
              refine hTake (i := 0) (v := ?_) rfl (by kernel_rfl) (by kernel_rfl) (by kernel_rfl) (by rfl) ?_ hH ?_
              rotate_left
              · intro W hW; (try dsimp only at hW); go_simp <;> with_reducible rfl
              simp only [Act.put, List.setIfInBounds_toArray, List.set_cons_zero, List.set_cons_succ]
              refine hTake (i := 1) (v := ?_) rfl (by kernel_rfl) (by kernel_rfl) (by kernel_rfl) (by rfl) ?_ hH ?_
              rotate_left
              · intro W hW; (try dsimp only at hW); go_simp <;> with_reducible rfl
              simp only [Act.put, List.setIfInBounds_toArray, List.set_cons_zero, List.set_cons_succ]
              refine hTake (i := 2) (v := ?_) rfl (by kernel_rfl) (by kernel_rfl) (by kernel_rfl) (by rfl) ?_ hH ?_
              rotate_left
              · intro W hW; (try dsimp only at hW); go_simp <;> with_reducible rfl
              simp only [Act.put, List.setIfInBounds_toArray, List.set_cons_zero, List.set_cons_succ]
              refine hTake (i := 3) (v := ?_) rfl (by kernel_rfl) (by kernel_rfl) (by kernel_rfl) (by rfl) ?_ hH ?_
              rotate_left
              · intro W hW; (try dsimp only at hW); go_simp <;> with_reducible rfl
              simp only [Act.put, List.setIfInBounds_toArray, List.set_cons_zero, List.set_cons_succ]
              refine hTake (i := 4) (v := ?_) rfl (by kernel_rfl) (by kernel_rfl) (by kernel_rfl) (by rfl) ?_ hH ?_
              rotate_left
              · intro W hW; (try dsimp only at hW); go_simp <;> with_reducible rfl
              simp only [Act.put, List.setIfInBounds_toArray, List.set_cons_zero, List.set_cons_succ]
              refine hTake (i := 5) (v := ?_) rfl (by kernel_rfl) (by kernel_rfl) (by kernel_rfl) (by rfl) ?_ hH ?_
              rotate_left
              · intro W hW; (try dsimp only at hW); go_simp <;> with_reducible rfl
              simp only [Act.put, List.setIfInBounds_toArray, List.set_cons_zero, List.set_cons_succ]
              refine hTake (i := 6) (v := ?_) rfl (by kernel_rfl) (by kernel_rfl) (by kernel_rfl) (by rfl) ?_ hH ?_
              rotate_left
              · intro W hW; (try dsimp only at hW); go_simp <;> with_reducible rfl
              simp only [Act.put, List.setIfInBounds_toArray, List.set_cons_zero, List.set_cons_succ]
              refine hTake (i := 7) (v := ?_) rfl (by kernel_rfl) (by kernel_rfl) (by kernel_rfl) (by rfl) ?_ hH ?_
              rotate_left
              · intro W hW; (try dsimp only at hW); go_simp <;> with_reducible rfl
              simp only [Act.put, List.setIfInBounds_toArray, List.set_cons_zero, List.set_cons_succ]
              refine hTake (i := 8) (v := ?_) rfl (by kernel_rfl) (by kernel_rfl) (by kernel_rfl) (by rfl) ?_ hH ?_
              rotate_left
              · intro W hW; (try dsimp only at hW); go_simp <;> with_reducible rfl
              simp only [Act.put, List.setIfInBounds_toArray, List.set_cons_zero, List.set_cons_succ]
              refine hTake (i := 9) (v := ?_) rfl (by kernel_rfl) (by kernel_rfl) (by kernel_rfl) (by rfl) ?_ hH ?_
              rotate_left
              · intro W hW; (try dsimp only at hW); go_simp <;> with_reducible rfl
              simp only [Act.put, List.setIfInBounds_toArray, List.set_cons_zero, List.set_cons_succ]
              refine hTake (i := 10) (v := ?_) rfl (by kernel_rfl) (by kernel_rfl) (by kernel_rfl) (by rfl) ?_ hH ?_
              rotate_left
              · intro W hW; (try dsimp only at hW); go_simp <;> with_reducible rfl
              simp only [Act.put, List.setIfInBounds_toArray, List.set_cons_zero, List.set_cons_succ]
              refine hTake (i := 11) (v := ?_) rfl (by kernel_rfl) (by kernel_rfl) (by kernel_rfl) (by rfl) ?_ hH ?_
              rotate_left
              · intro W hW; (try dsimp only at hW); go_simp <;> with_reducible rfl
              simp only [Act.put, List.setIfInBounds_toArray, List.set_cons_zero, List.set_cons_succ]
              refine hTake (i := 12) (v := ?_) rfl (by kernel_rfl) (by kernel_rfl) (by kernel_rfl) (by rfl) ?_ hH ?_
              rotate_left
              · intro W hW; (try dsimp only at hW); go_simp <;> with_reducible rfl
              simp only [Act.put, List.setIfInBounds_toArray, List.set_cons_zero, List.set_cons_succ]
              refine wpAnyH_done (by kernel_rfl) ?_ _
              refine NoPanic.normal ?_
              have x0 := box_cell hH.2.2 0
              have x1 := box_cell hH.2.2 1
              have x2 := box_cell hH.2.2 2
              simp only [List.getElem?_toArray, List.getElem?_cons_zero, List.getElem?_cons_succ] at x0 x1 x2
              have bq := below_box hH.2.2
              clear hH
              go_wp2_with fail
              refine (viewLock_any rk ah nh ch aq nq cq _).mono ?_
              rintro e w3 ⟨rfl, b3⟩
              have bq := bq.trans (b3.mono bq.size)
              have x2 := keep_cell b3 x2
              clear b3 x0 x1
              go_wp2_with fail
              refine (IL _ (h3.below bq) (h4.below bq)).mono ?_
              rintro e w4 ⟨rfl, b4⟩
              have bq := bq.trans (b4.mono bq.size)
              have x2 := keep_cell b4 x2
              have lx := lt_of_cell x2
              clear b4
              have oN := owns_below own bq
              have hC := h4.below bq
              have hbase : w.heap.size ≤ w4.heap.size := Nat.le_trans hB.size bq.size
              have hsum : m + nq ≤ 4194304 := by omega
              clear IL IR
              go_wp2_with (at_builtin; go_must (refine wpList_appX Try.underlying177 Try.underlying127 hi0 hz0 hz1 hz2 rfl (by omega) (by omega) (.tmp 37) (.tmp 39) ?_ ?_ w.heap.size (.slice a' m c') m (hcells WT) aq nq cq (hcells lqs) ?_ ?_ oN hC (hcells_one' lqs) hsum hbase ?_; exact rfl; exact rfl; exact rfl; exact rfl; intro a5 c5 w5 own5 gr5 at5))
              go_roundw
              case rel =>
                rw [← hcells_append, ← HW.out] at own5
                refine ⟨j + 1 + 1, m + nq, a5, c5, by omega, by go_num, rfl, own5, (by have h1 := (owns_hlen own5).out; have h2 := Ch.waiters_small hs (j + 1 + 1); omega), HN.out, HA'.out, ?_⟩
                have b4' := hB.trans (bq.mono hB.size)
                exact b4'.grown gr5 b4'.size (fun g hg => (owns_lt oN g hg).1)
              case measure => simp [intOf]; omega
          · have HN := hid (HBad.out hf)
            obtain ⟨cf, HCF⟩ : ∃ cf, Hid (Ch.lkOne ls k = cf) := ⟨_, rfl⟩
            rw [HCF.out] at hf IL
            have hf0 : ¬ cf = 0 := by simpa using hf
            clear hf H3 HBad HNext HR HA
            cases k with
            | zero =>
              clear HRes HLow HOwn hlow
              have hd : decide ((0 : Int) < ((0 : Nat) : Int)) = false := by simp
              simp only [Nat.zero_mul, Nat.add_zero] at hl
              have c0 := hl.1
              have c1 := hl.2.1
              have c2 := hl.2.2.1
              have h3 := hl.2.2.2.1
              have h4 := hl.2.2.2.2.1
              generalize Ch.lkAt ls 0 = l at *
              obtain ⟨rk, lhs, lqs⟩ := l
              simp only at c0 c1 c2 h3 h4 IL HW HSz IR
              have kW : ∀ o, Below wr.heap.size wr (wr.alloc o) := fun o => (Below.refl _ _).alloc (Nat.le_refl _) o
              have z0 : (wr.alloc (.cells #[.int .i64 rk, .slice ah nh ch, .slice aq nq cq] 129)).cell? ⟨wr.heap.size, 0, none⟩ = some (.int .i64 rk) := by simp [go_sem]
              go_wp2_with fail
              refine (IR _).mono ?_
              rintro e w1 ⟨rfl, hw1⟩
              obtain rfl := hw1.symm
              go_wp2_with fail
              refine wp_region_noPanic ?_
              refine wp_region_held_drew (S := fun W' => Below (wr.alloc (.cells #[.int .i64 rk, .slice ah nh ch, .slice aq nq cq] 129)).heap.size (wr.alloc (.cells #[.int .i64 rk, .slice ah nh ch, .slice aq nq cq] 129)) W') (by kernel_rfl) ((Below.refl _ _).drew) (fun hH => ?_)
              refine hTake (i := 0) (v := ?_) rfl (by kernel_rfl) (by kernel_rfl) (by kernel_rfl) (by rfl) ?_ hH ?_
              rotate_left
              · intro W hW; (try dsimp only at hW); go_simp <;> with_reducible rfl
              simp only [Act.put, List.setIfInBounds_toArray, List.set_cons_zero, List.set_cons_succ]
              refine hTake (i := 1) (v := ?_) rfl (by kernel_rfl) (by kernel_rfl) (by kernel_rfl) (by rfl) ?_ hH ?_
              rotate_left
              · intro W hW; (try dsimp only at hW); go_simp <;> with_reducible rfl
              simp only [Act.put, List.setIfInBounds_toArray, List.set_cons_zero, List.set_cons_succ]
              refine hTake (i := 2) (v := ?_) rfl (by kernel_rfl) (by kernel_rfl) (by kernel_rfl) (by rfl) ?_ hH ?_
              rotate_left
              · intro W hW; (try dsimp only at hW); go_simp <;> with_reducible rfl
              simp only [Act.put, List.setIfInBounds_toArray, List.set_cons_zero, List.set_cons_succ]
              refine hSkip (i := 3) rfl (by kernel_rfl) (by kernel_rfl) (by kernel_rfl) (by rfl) hH ?_
              simp only [Act.put, List.setIfInBounds_toArray, List.set_cons_zero, List.set_cons_succ]
              refine hSkip (i := 4) rfl (by kernel_rfl) (by kernel_rfl) (by kernel_rfl) (by rfl) hH ?_
              simp only [Act.put, List.setIfInBounds_toArray, List.set_cons_zero, List.set_cons_succ]
              refine hSkip (i := 5) rfl (by kernel_rfl) (by kernel_rfl) (by kernel_rfl) (by rfl) hH ?_
              simp only [Act.put, List.setIfInBounds_toArray, List.set_cons_zero, List.set_cons_succ]
              refine hSkip (i := 6) rfl (by kernel_rfl) (by kernel_rfl) (by kernel_rfl) (by rfl) hH ?_
              simp only [Act.put, List.setIfInBounds_toArray, List.set_cons_zero, List.set_cons_succ]
              refine hSkip (i := 7) rfl (by kernel_rfl) (by kernel_rfl) (by kernel_rfl) (by rfl) hH ?_
              simp only [Act.put, List.setIfInBounds_toArray, List.set_cons_zero, List.set_cons_succ]
              refine hSkip (i := 8) rfl (by kernel_rfl) (by kernel_rfl) (by kernel_rfl) (by rfl) hH ?_
              simp only [Act.put, List.setIfInBounds_toArray, List.set_cons_zero, List.set_cons_succ]
              refine hSkip (i := 9) rfl (by kernel_rfl) (by kernel_rfl) (by kernel_rfl) (by rfl) hH ?_
              simp only [Act.put, List.setIfInBounds_toArray, List.set_cons_zero, List.set_cons_succ]
              refine hSkip (i := 10) rfl (by kernel_rfl) (by kernel_rfl) (by kernel_rfl) (by rfl) hH ?_
              simp only [Act.put, List.setIfInBounds_toArray, List.set_cons_zero, List.set_cons_succ]
              refine hSkip (i := 11) rfl (by kernel_rfl) (by kernel_rfl) (by kernel_rfl) (by rfl) hH ?_
              simp only [Act.put, List.setIfInBounds_toArray, List.set_cons_zero, List.set_cons_succ]
              refine hTake (i := 12) (v := ?_) rfl (by kernel_rfl) (by kernel_rfl) (by kernel_rfl) (by rfl) ?_ hH ?_
              rotate_left
              · intro W hW; (try dsimp only at hW); go_simp <;> with_reducible rfl
              simp only [Act.put, List.setIfInBounds_toArray, List.set_cons_zero, List.set_cons_succ]
              refine wpAnyH_done (by kernel_rfl) ?_ _
              refine NoPanic.normal ?_
              have x0 := box_cell hH 0
              have x1 := box_cell hH 1
              have x2 := box_cell hH 2
              simp only [List.getElem?_toArray, List.getElem?_cons_zero, List.getElem?_cons_succ] at x0 x1 x2
              have bq := below_box hH
              clear hH
              go_wp2_with fail
              refine (viewLock_any rk ah nh ch aq nq cq _).mono ?_
              rintro e w3 ⟨rfl, b3⟩
              have bq := bq.trans (b3.mono bq.size)
              have x2 := keep_cell b3 x2
              clear b3 x0 x1
              go_wp2_with fail
              refine (IL _ (h3.below bq) (h4.below bq)).mono ?_
              rintro e w4 ⟨rfl, b4⟩
              have bq := bq.trans (b4.mono bq.size)
              have x2 := keep_cell b4 x2
              have lx := lt_of_cell x2
              clear b4
              go_wp2
              go_ret
              exact ⟨ret_int (by rw [HN.out, HCF.out]), hB.trans (bq.mono hB.size)⟩
            | succ j =>
              have hle : ¬ (Ch.lkAt ls (j + 1)).r ≤ (Ch.lkAt ls j).r := fun h => hlow ⟨by omega, h⟩
              obtain ⟨b', off', _, _, _, _, _, _, hbo, hj⟩ := (h.below hB).lock (show j < n by omega)
              simp only [Option.some.injEq, Addr.mk.injEq, and_true] at hbo
              obtain ⟨rfl, rfl⟩ := hbo
              have p0 := hj.1
              have c0 := hl.1
              have c1 := hl.2.1
              have c2 := hl.2.2.1
              have h3 := hl.2.2.2.1
              have h4 := hl.2.2.2.2.1
              clear hj hlow HRes HLow HOwn
              generalize (Ch.lkAt ls j).r = rj at *
              generalize Ch.lkAt ls (j + 1) = l at *
              obtain ⟨rk, lhs, lqs⟩ := l
              simp only at c0 c1 c2 h3 h4 IL HW HSz IR hle
              have hd : decide ((0 : Int) < ((j + 1 : Nat) : Int)) = true := by simp
              have hwj : IntKind.i64.wrap (j : Int) = (j : Int) := IntWalk.i64_in _ ⟨by omega, by omega⟩
              have hj0 : (0 : Int) ≤ (j : Int) := by omega
              have hjn : (j : Int) < (n : Int) := by omega
              have hj1 : (0 : Int) ≤ (j : Int) + 1 := by omega
              have hj2 : (j : Int) + 1 < (n : Int) := by omega
              have hbl := lt_of_cell c0
              have kW : ∀ o, Below wr.heap.size wr (wr.alloc o) := fun o => (Below.refl _ _).alloc (Nat.le_refl _) o
              have z0 : (wr.alloc (.cells #[.int .i64 rk, .slice ah nh ch, .slice aq nq cq] 129)).cell? ⟨wr.heap.size, 0, none⟩ = some (.int .i64 rk) := by simp [go_sem]
              go_wp2_with fail
              refine (IR _).mono ?_
              rintro e w1 ⟨rfl, hw1⟩
              obtain rfl := hw1.symm
              go_wp2_with fail
              refine wp_region_noPanic ?_
              refine wp_region_held_drew (S := fun W' => W'.cell? ⟨wr.heap.size, 0, none⟩ = some (.int .i64 rk) ∧ W'.cell? ⟨b, off + j * 3, none⟩ = some (.int .i64 rj) ∧ Below (wr.alloc (.cells #[.int .i64 rk, .slice ah nh ch, .slice aq nq cq] 129)).heap.size (wr.alloc (.cells #[.int .i64 rk, .slice ah nh ch, .slice aq nq cq] 129)) W') (by kernel_rfl) (⟨z0, keep_cell (kW _) p0, (Below.refl _ _).drew⟩) (fun hH => ?_)
              refine hTake (i := 0) (v := ?_) rfl (by kernel_rfl) (by kernel_rfl) (by kernel_rfl) (by rfl) ?_ hH ?_
              rotate_left
              · intro W hW; (try dsimp only at hW); go_simp <;> with_reducible rfl
              simp only [Act.put, List.setIfInBounds_toArray, List.set_cons_zero, List.set_cons_succ]
              refine hTake (i := 1) (v := ?_) rfl (by kernel_rfl) (by kernel_rfl) (by kernel_rfl) (by rfl) ?_ hH ?_
              rotate_left
              · intro W hW; (try dsimp only at hW); go_simp <;> with_reducible rfl
              simp only [Act.put, List.setIfInBounds_toArray, List.set_cons_zero, List.set_cons_succ]
              refine hTake (i := 2) (v := ?_) rfl (by kernel_rfl) (by kernel_rfl) (by kernel_rfl) (by rfl) ?_ hH ?_
              rotate_left
              · intro W hW; (try dsimp only at hW); go_simp <;> with_reducible rfl
              simp only [Act.put, List.setIfInBounds_toArray, List.set_cons_zero, List.set_cons_succ]
              refine hTake (i := 3) (v := ?_) rfl (by kernel_rfl) (by kernel_rfl) (by kernel_rfl) (by rfl) ?_ hH ?_
              rotate_left
              · intro W hW; (try dsimp only at hW); go_simp <;> with_reducible rfl
              simp only [Act.put, List.setIfInBounds_toArray, List.set_cons_zero, List.set_cons_succ]
              refine hTake (i := 4) (v := ?_) rfl (by kernel_rfl) (by kernel_rfl) (by kernel_rfl) (by rfl) ?_ hH ?_
              rotate_left
              · intro W hW; (try dsimp only at hW); go_simp <;> with_reducible rfl
              simp only [Act.put, List.setIfInBounds_toArray, List.set_cons_zero, List.set_cons_succ]
              refine hTake (i := 5) (v := ?_) rfl (by kernel_rfl) (by kernel_rfl) (by kernel_rfl) (by rfl) ?_ hH ?_
              rotate_left
              · intro W hW; (try dsimp only at hW); go_simp <;> with_reducible rfl
              simp only [Act.put, List.setIfInBounds_toArray, List.set_cons_zero, List.set_cons_succ]
              refine hTake (i := 6) (v := ?_) rfl (by kernel_rfl) (by kernel_rfl) (by kernel_rfl) (by rfl) ?_ hH ?_
              rotate_left
              · intro W hW; (try dsimp only at hW); go_simp <;> with_reducible rfl
              simp only [Act.put, List.setIfInBounds_toArray, List.set_cons_zero, List.set_cons_succ]
              refine hTake (i := 7) (v := ?_) rfl (by kernel_rfl) (by kernel_rfl) (by kernel_rfl) (by rfl) ?_ hH ?_
              rotate_left
              · intro W hW; (try dsimp only at hW); go_simp <;> with_reducible rfl
              simp only [Act.put, List.setIfInBounds_toArray, List.set_cons_zero, List.set_cons_succ]
              refine hTake (i := 8) (v := ?_) rfl (by kernel_rfl) (by kernel_rfl) (by kernel_rfl) (by rfl) ?_ hH ?_
              rotate_left
              · intro W hW; (try dsimp only at hW); go_simp <;> with_reducible rfl
              simp only [Act.put, List.setIfInBounds_toArray, List.set_cons_zero, List.set_cons_succ]
              refine hTake (i := 9) (v := ?_) rfl (by kernel_rfl) (by kernel_rfl) (by kernel_rfl) (by rfl) ?_ hH ?_
              rotate_left
              · intro W hW; (try dsimp only at hW); go_simp <;> with_reducible rfl
              simp only [Act.put, List.setIfInBounds_toArray, List.set_cons_zero, List.set_cons_succ]
              refine hTake (i := 10) (v := ?_) rfl (by kernel_rfl) (by kernel_rfl) (by kernel_rfl) (by rfl) ?_ hH ?_
              rotate_left
              · intro W hW; (try dsimp only at hW); go_simp <;> with_reducible rfl
              simp only [Act.put, List.setIfInBounds_toArray, List.set_cons_zero, List.set_cons_succ]
              refine hTake (i := 11) (v := ?_) rfl (by kernel_rfl) (by kernel_rfl) (by kernel_rfl) (by rfl) ?_ hH ?_
              rotate_left
              · intro W hW; (try dsimp only at hW); go_simp <;> with_reducible rfl
              simp only [Act.put, List.setIfInBounds_toArray, List.set_cons_zero, List.set_cons_succ]
              refine hTake (i := 12) (v := ?_) rfl (by kernel_rfl) (by kernel_rfl) (by kernel_rfl) (by rfl) ?_ hH ?_
              rotate_left
              · intro W hW; (try dsimp only at hW); go_simp <;> with_reducible rfl
              simp only [Act.put, List.setIfInBounds_toArray, List.set_cons_zero, List.set_cons_succ]
              refine wpAnyH_done (by kernel_rfl) ?_ _
              refine NoPanic.normal ?_
              have x0 := box_cell hH.2.2 0
              have x1 := box_cell hH.2.2 1
              have x2 := box_cell hH.2.2 2
              simp only [List.getElem?_toArray, List.getElem?_cons_zero, List.getElem?_cons_succ] at x0 x1 x2
              have bq := below_box hH.2.2
              clear hH
              go_wp2_with fail
              refine (viewLock_any rk ah nh ch aq nq cq _).mono ?_
              rintro e w3 ⟨rfl, b3⟩
              have bq := bq.trans (b3.mono bq.size)
              have x2 := keep_cell b3 x2
              clear b3 x0 x1
              go_wp2_with fail
              refine (IL _ (h3.below bq) (h4.below bq)).mono ?_
              rintro e w4 ⟨rfl, b4⟩
              have bq := bq.trans (b4.mono bq.size)
              have x2 := keep_cell b4 x2
              have lx := lt_of_cell x2
              clear b4
              go_wp2
              go_ret
              exact ⟨ret_int (by rw [HN.out, HCF.out]), hB.trans (bq.mono hB.size)⟩
    · obtain rfl : k = n := by omega
      have HNm := hid (Ch.waiters_names k (by have := HL.out; omega) HA.out)
      have HWF : Hid (ls.take k = ls) := by have := HL.out; show _ = _; rw [this]; exact List.take_length
      rw [HWF.out] at own HNm
      have HR2 := hid (HR.out.trans (Ch.lksGo_end rfl))
      clear HR HA HWF
      have IT := fun W hW => hasTwice_any a' m c' (Ch.waiters ls) W hW hm HNm.out
      cases ht : Ch.twice (Ch.waiters ls)
      all_goals rw [ht] at IT
      · have H3 : Hid (Ch.locksFault ls = 0) := by show _ = _; rw [HR2.out, ht]; rfl
        clear HR2
        go_wp2_with fail
        refine (IT _ (owns_cells own)).mono ?_
        rintro e w1 ⟨rfl, b1⟩
        go_wp2
        go_ret
        exact ⟨ret_int H3.out.symm, hB.trans (b1.mono hB.size)⟩
      · have H3 : Hid (Ch.locksFault ls = 10) := by show _ = _; rw [HR2.out, ht]; rfl
        clear HR2
        go_wp2_with fail
        refine (IT _ (owns_cells own)).mono ?_
        rintro e w1 ⟨rfl, b1⟩
        go_wp2
        go_ret
        exact ⟨ret_int H3.out.symm, hB.trans (b1.mono hB.size)⟩

end Go.Proofs.Ytjagobcogkdfhaa

