
/- PutRow of the model. -/
import Derived.Test.YtofhkncdjjlllaaPutE
namespace Go.Proofs.Ytofhkncdjjlllaa
open Go.RowKit

theorem Ch.putR_code {ls : List (List Ch.Row)} {r : Ch.Row} (h : (Ch.leavesFault ls != 0) = true) : Ch.putR ls r = (Ch.leavesFault ls, []) := by rw [Ch.putR, if_pos h]
theorem Ch.putR_row {ls : List (List Ch.Row)} {r : Ch.Row} (h : (Ch.leavesFault ls != 0) = false) (hr : (r.fault != 0) = true) : Ch.putR ls r = (r.fault, []) := by rw [Ch.putR, if_neg (by simp [h]), if_pos hr]
theorem Ch.putR_many {ls : List (List Ch.Row)} {r : Ch.Row} (h : (Ch.leavesFault ls != 0) = false) (hr : (r.fault != 0) = false) (hm : 60 < (Ch.put ls r).length) : Ch.putR ls r = (2, []) := by rw [Ch.putR, if_neg (by simp [h]), if_neg (by simp [hr]), if_pos hm]
theorem Ch.putR_ok {ls : List (List Ch.Row)} {r : Ch.Row} (h : (Ch.leavesFault ls != 0) = false) (hr : (r.fault != 0) = false) (hm : ¬ 60 < (Ch.put ls r).length) : Ch.putR ls r = (0, Ch.put ls r) := by rw [Ch.putR, if_neg (by simp [h]), if_neg (by simp [hr]), if_neg hm]

set_option linter.unusedSimpArgs false in
set_option maxHeartbeats 4000000 in
theorem specPutRow_any (a : Option Addr) (n cap : Nat) (ls : List (List Ch.Row)) (rk rv : Int) (rg : Bool) (w : World) (h : LvAt w a n ls) (hs : Ch.lvSize ls ≤ 1048576) :
    Calls Try.prog 21 #[.slice a n cap, .agg #[.int .i64 rk, .int .i64 rv, .bool rg]] w fun e w' => ∃ a' m c', e = .returned (.agg #[.int .i64 (Ch.putR ls ⟨rk, rv, rg⟩).1, .slice a' m c']) ∧ OwnLv w' w.heap.size (.slice a' m c') m (Ch.putR ls ⟨rk, rv, rg⟩).2 ∧ Below w.heap.size w w' := by
  have HL := h.len
  have b0 : Below w.heap.size w ((w.alloc (.cells #[.int .i64 rk, .int .i64 rv, .bool rg] 42)).alloc (.cells #[.int .i64 0, .slice none 0 0] 46)) := Below.alloc (Below.alloc (Below.refl _ w) (Nat.le_refl _) _) (by simp) _
  obtain ⟨c, Hc⟩ : ∃ c, Hid (c = Ch.leavesFault ls) := ⟨_, rfl⟩
  obtain ⟨d, Hd⟩ : ∃ d, Hid (d = Ch.rowFault rk rv rg) := ⟨_, rfl⟩
  have HA : Hid ((c != 0) = true → Ch.putR ls ⟨rk, rv, rg⟩ = (c, [])) := by rw [Hc.out]; exact fun h => Ch.putR_code h
  have HB : Hid ((c != 0) = false → (d != 0) = true → Ch.putR ls ⟨rk, rv, rg⟩ = (d, [])) := by rw [Hc.out, Hd.out]; exact fun h h' => Ch.putR_row h h'
  have HC : Hid ((c != 0) = false → (d != 0) = false → 60 < (Ch.put ls ⟨rk, rv, rg⟩).length → Ch.putR ls ⟨rk, rv, rg⟩ = (2, [])) := by rw [Hc.out, Hd.out]; exact fun h h' => Ch.putR_many h h'
  have HD : Hid ((c != 0) = false → (d != 0) = false → ¬ 60 < (Ch.put ls ⟨rk, rv, rg⟩).length → Ch.putR ls ⟨rk, rv, rg⟩ = (0, Ch.put ls ⟨rk, rv, rg⟩)) := by rw [Hc.out, Hd.out]; exact fun h h' => Ch.putR_ok h h'
  go_enter Try.func21, Try.ntmps21
  go_wp2_with fail
  refine (specLv_any a n cap ls _ (h.below b0) hs).mono ?_
  rintro e w1 ⟨rfl, b1⟩
  rw [← Hc.out]
  obtain ⟨cA, fA⟩ := bcell b1
  have r0 := cA w.heap.size 0 (by simp; omega)
  have r1 := cA w.heap.size 1 (by simp; omega)
  have r2 := cA w.heap.size 2 (by simp; omega)
  have x0 := cA (w.heap.size + 1) 0 (by simp)
  have x1 := cA (w.heap.size + 1) 1 (by simp)
  have f0 := fA (w.heap.size + 1) 0 (by simp)
  have f1 := fA (w.heap.size + 1) 1 (by simp)
  clear cA fA
  simp [go_sem] at r0 r1 r2 x0 x1 f0 f1
  have hz := lt_of_cell x0
  have bE := b0.trans (b1.mono b0.size)
  clear b1 b0
  cases hc : (c != 0)
  · have hf : Ch.leavesFault ls = 0 := by rw [← Hc.out]; simpa using hc
    clear HA
    go_wp2_with fail
    refine (specRow_any rk rv rg _).mono ?_
    rintro e w2 ⟨rfl, b2⟩
    rw [← Hd.out]
    have r0 := keep_cell b2 r0
    have r1 := keep_cell b2 r1
    have r2 := keep_cell b2 r2
    have x0 := keep_cell b2 x0
    have x1 := keep_cell b2 x1
    have f0 := ((bcell b2).2 (w.heap.size + 1) 0 hz).trans f0
    have f1 := ((bcell b2).2 (w.heap.size + 1) 1 hz).trans f1
    have hz := lt_of_cell x0
    have bE := bE.trans (b2.mono bE.size)
    cases hd : (d != 0)
    · have HC' := hid (HC.out hc hd)
      have HD' := hid (HD.out hc hd)
      clear HB HC HD
      go_wp2_with fail
      refine (specPut_any a n cap ls rk rv rg _ (h.below bE) hs hf).mono ?_
      rintro e w3 ⟨a3, m3, c3, rfl, own3, b3⟩
      have HM : Hid (m3 = (Ch.put ls ⟨rk, rv, rg⟩).length) := own3.1.symm
      have x0 := keep_cell b3 x0
      have x1 := keep_cell b3 x1
      have f0 := ((bcell b3).2 (w.heap.size + 1) 0 hz).trans f0
      have f1 := ((bcell b3).2 (w.heap.size + 1) 1 hz).trans f1
      have bE3 := bE.trans (b3.mono bE.size)
      by_cases hm : 60 < m3
      · have HR := hid (HC'.out (by have := HM.out; omega))
        have hmi : (m3 : Int) > 60 := by omega
        clear HC' HD'
        go_wp2
        refine bodyPost_ret (v := .agg #[.int .i64 2, .slice none 0 0]) (by simp [results, Try.results21, go_sem, x0, x1]) rfl ⟨none, 0, 0, by rw [HR.out], by rw [HR.out]; exact OwnLv.nil _ _, ?_⟩
        exact (bE3.setCell (p := ⟨w.heap.size + 1, 0, none⟩) (by simp) _).setCell (p := ⟨w.heap.size + 1, 1, none⟩) (by simp) _
      · have HR := hid (HD'.out (by have := HM.out; omega))
        have hmi : ¬ (m3 : Int) > 60 := by omega
        clear HC' HD'
        go_wp2
        refine bodyPost_ret (v := .agg #[.int .i64 0, .slice a3 m3 c3]) (by simp [results, Try.results21, go_sem, x0, x1]) rfl ⟨a3, m3, c3, by rw [HR.out], ?_, ?_⟩
        · rw [HR.out]
          have hsz := bE.size
          exact ((own3.box hz _).box hz _).base hsz
        · exact (bE3.setCell (p := ⟨w.heap.size + 1, 0, none⟩) (by simp) _).setCell (p := ⟨w.heap.size + 1, 1, none⟩) (by simp) _
    · have HR := hid (HB.out hc hd)
      clear HB HC HD
      go_wp2
      refine bodyPost_ret (v := .agg #[.int .i64 d, .slice none 0 0]) (by simp [results, Try.results21, go_sem, x0, x1]) rfl ⟨none, 0, 0, by rw [HR.out], by rw [HR.out]; exact OwnLv.nil _ _, ?_⟩
      exact (bE.setCell (p := ⟨w.heap.size + 1, 0, none⟩) (by simp) _).setCell (p := ⟨w.heap.size + 1, 1, none⟩) (by simp) _
  · have HR := hid (HA.out hc)
    clear HA HB HC HD
    go_wp2
    refine bodyPost_ret (v := .agg #[.int .i64 c, .slice none 0 0]) (by simp [results, Try.results21, go_sem, x0, x1]) rfl ⟨none, 0, 0, by rw [HR.out], by rw [HR.out]; exact OwnLv.nil _ _, ?_⟩
    exact (bE.setCell (p := ⟨w.heap.size + 1, 0, none⟩) (by simp) _).setCell (p := ⟨w.heap.size + 1, 1, none⟩) (by simp) _
end Go.Proofs.Ytofhkncdjjlllaa
