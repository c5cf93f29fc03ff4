
/- l3Into of the model: a row put into rows. -/
import Derived.Test.YtjjbjdjkcckgmaaPutA
namespace Go.Proofs.Ytjjbjdjkcckgmaa
open Go.RowKit

set_option maxHeartbeats 8000000 in
theorem specInto_any (a : Option Addr) (n cap : Nat) (l : List Ch.Row) (rk rv : Int) (rg : Bool) (w : World) (h : CellsAt w a (n * 3) (rcells l)) (hn : n ≤ 1048576) :
    Calls Try.prog 29 #[.slice a n cap, .agg #[.int .i64 rk, .int .i64 rv, .bool rg]] w fun e w' => ∃ a' m c', e = .returned (.slice a' m c') ∧ w'.ownsRow w.heap.size 49 3 (.slice a' m c') m (rcells (Ch.into ⟨rk, rv, rg⟩ l)) ∧ Below w.heap.size w w' := by
  have HL := h.rlen
  have bA : ∀ (W : World) o, Below W.heap.size W (W.alloc o) := fun W o => (Below.refl _ _).alloc (Nat.le_refl _) _
  go_enter Try.func29, Try.ntmps29
  go_wp2
  obtain ⟨B, HBe⟩ : ∃ B, Hid (B = w.heap.size + 1) := ⟨_, rfl⟩
  go_loopw [5, 6, 7] (fun q dv i wr => ∃ (t p : Nat) (a2 : Option Addr) (c2 : Nat) (d : Bool) (S : List Ch.Row), t ≤ n ∧ p ≤ t + d.toNat ∧ i = .int .i64 t ∧ dv = .bool d ∧ q = .slice a2 p c2 ∧ Hid (Ch.InSt ⟨rk, rv, rg⟩ l t d S) ∧ wr.ownsRow B 49 3 (.slice a2 p c2) p (rcells S) ∧ Below B (w.alloc (.cells #[.int .i64 rk, .int .i64 rv, .bool rg] 49)) wr) (fun _ _ i _ => n - (intOf i).toNat)
  case atStart =>
    have e := HBe.out
    subst e
    refine ⟨0, 0, _, _, false, [], Nat.zero_le _, by simp, rfl, rfl, rfl, Ch.InSt.start _ _, ?_, ?_⟩
    · have := empty_rows (w.alloc (.cells #[.int .i64 rk, .int .i64 rv, .bool rg] 49)) (w.heap.size + 1) (by simp)
      simpa using this
    · exact (Below.refl _ _).alloc (by simp) _
  case round =>
    obtain ⟨t, p, a2, c2, d, S, ht, hp, rfl, rfl, rfl, st, own, hB⟩ := hrel
    have hBs : B ≤ wr.heap.size := by have := hB.size; have := HBe.out; simp at *; omega
    have hBo : Below (w.alloc (.cells #[.int .i64 rk, .int .i64 rv, .bool rg] 49)).heap.size (w.alloc (.cells #[.int .i64 rk, .int .i64 rv, .bool rg] 49)) wr := by
      have := HBe.out; subst this; simpa using hB
    have r0 := box_cell hBo 0
    have r1 := box_cell hBo 1
    have r2 := box_cell hBo 2
    simp at r0 r1 r2
    have hbw := below_box hBo
    clear hBo
    by_cases hlt : t < n
    · have htl : t < l.length := by have := HL.out; omega
      obtain ⟨b1, o1, rfl, y0, y1, y2⟩ := h.row hlt
      have HLo := hid (fun (e : d = false) => Ch.InSt.low (e ▸ st.out) htl)
      have HSa := hid (fun (e : d = false) => Ch.InSt.same (e ▸ st.out) htl)
      have HHi := hid (fun (e : d = false) => Ch.InSt.high (e ▸ st.out) htl)
      have HOn := hid (fun (e : d = true) => Ch.InSt.on (e ▸ st.out) htl)
      have HOv := hid (fun (e : d = true) => Ch.InSt.over (e ▸ st.out) htl)
      generalize l.getD t Ch.Row.zero = rr at *
      obtain ⟨xk, xv, xg⟩ := rr
      simp only at y0 y1 y2 HLo HSa HHi HOn HOv
      have q0 := keep_cell hbw y0
      have q1 := keep_cell hbw y1
      have q2 := keep_cell hbw y2
      have hit : ((t : Int) < (n : Int)) := by omega
      cases d with
      | false =>
        simp only [Bool.toNat_false, Nat.add_zero] at hp
        have hsum1 : p + 1 ≤ 2097152 := by omega
        have hsum2 : p + 1 + 1 ≤ 2097152 := by omega
        have HLo' := hid (HLo.out rfl)
        have HSa' := hid (HSa.out rfl)
        have HHi' := hid (HHi.out rfl)
        clear HLo HSa HHi HOn HOv st
        rcases Int.lt_trichotomy xk rk with hx | hx | hx
        · have hd : decide (xk ≥ rk) = false := by simp; omega
          have hne : (xk != rk) = true := by simp; omega
          have HS := hid (HLo'.out hx)
          clear HLo' HSa' HHi' hx
          go_wp2
          go_quiet (fail)
          go_wp2
          go_quiet (fail)
          go_wp2_with (at_builtin; go_must (refine wpList_appRs (.tmp 39) (.tmp 44) B (.slice a2 p c2) p S 1 [⟨xk, xv, xg⟩] hsum1 ?_ ?_ ?_ ?_ ?_ ?_ ?_; exact rfl; exact rfl; exact rfl; exact ⟨_, _, rfl, new_row (r := ⟨xk, xv, xg⟩) rfl⟩; exact owns_below own (below_drewN (Below.refl _ _) _ |>.alloc (by simp) _); (focus (simp; omega)); intro a3 c3 w3 own3 b3))
          go_roundw
          case rel => exact ⟨t + 1, p + 1, a3, c3, false, _, by omega, by simp; omega, by go_num, rfl, rfl, HS.out, own3, ((below_drewN hB _).alloc (by simpa using hBs) _).trans b3⟩
          case measure => simp [intOf]; omega
        · have hd : decide (xk ≥ rk) = true := by simp; omega
          have hne : (xk != rk) = false := by simp; omega
          have HS := hid (HSa'.out hx)
          clear HLo' HSa' HHi' hx
          go_wp2
          go_quiet (fail)
          go_wp2_with (at_builtin; go_must (refine wpList_appRs (.tmp 27) (.tmp 29) B (.slice a2 p c2) (p) (S) 1 [⟨rk, rv, rg⟩] hsum1 ?_ ?_ ?_ ?_ ?_ ?_ ?_; exact rfl; exact rfl; exact rfl; exact ⟨_, _, rfl, new_row (r := ⟨rk, rv, rg⟩) rfl⟩; exact owns_below own (below_drewN (Below.refl _ _) _ |>.alloc (by simp) _); (focus (simp; omega)); intro a3 c3 w3 own3 b3))
          have hB3 := ((below_drewN hB _).alloc (by simpa using hBs) _).trans b3
          have hBs3 : B ≤ w3.heap.size := by have := hB3.size; have := HBe.out; simp at *; omega
          have hBo3 : Below (w.alloc (.cells #[.int .i64 rk, .int .i64 rv, .bool rg] 49)).heap.size (w.alloc (.cells #[.int .i64 rk, .int .i64 rv, .bool rg] 49)) w3 := by
            have := HBe.out; subst this; simpa using hB3
          have r0 := box_cell hBo3 0
          have r1 := box_cell hBo3 1
          have r2 := box_cell hBo3 2
          simp at r0 r1 r2
          have hbw3 := below_box hBo3
          clear hBo3
          have q0 := keep_cell hbw3 y0
          have q1 := keep_cell hbw3 y1
          have q2 := keep_cell hbw3 y2
          go_quiet (fail)
          go_wp2
          go_roundw
          case rel => exact ⟨t + 1, p + 1, a3, c3, true, _, by omega, by simp; omega, by go_num, rfl, rfl, HS.out, own3, below_drewN hB3 _⟩
          case measure => simp [intOf]; omega
        · have hd : decide (xk ≥ rk) = true := by simp; omega
          have hne : (xk != rk) = true := by simp; omega
          have HS := hid (HHi'.out hx)
          clear HLo' HSa' HHi' hx
          go_wp2
          go_quiet (fail)
          go_wp2_with (at_builtin; go_must (refine wpList_appRs (.tmp 27) (.tmp 29) B (.slice a2 p c2) (p) (S) 1 [⟨rk, rv, rg⟩] hsum1 ?_ ?_ ?_ ?_ ?_ ?_ ?_; exact rfl; exact rfl; exact rfl; exact ⟨_, _, rfl, new_row (r := ⟨rk, rv, rg⟩) rfl⟩; exact owns_below own (below_drewN (Below.refl _ _) _ |>.alloc (by simp) _); (focus (simp; omega)); intro a3 c3 w3 own3 b3))
          have hB3 := ((below_drewN hB _).alloc (by simpa using hBs) _).trans b3
          have hBs3 : B ≤ w3.heap.size := by have := hB3.size; have := HBe.out; simp at *; omega
          have hBo3 : Below (w.alloc (.cells #[.int .i64 rk, .int .i64 rv, .bool rg] 49)).heap.size (w.alloc (.cells #[.int .i64 rk, .int .i64 rv, .bool rg] 49)) w3 := by
            have := HBe.out; subst this; simpa using hB3
          have r0 := box_cell hBo3 0
          have r1 := box_cell hBo3 1
          have r2 := box_cell hBo3 2
          simp at r0 r1 r2
          have hbw3 := below_box hBo3
          clear hBo3
          have q0 := keep_cell hbw3 y0
          have q1 := keep_cell hbw3 y1
          have q2 := keep_cell hbw3 y2
          go_quiet (fail)
          go_wp2_with (at_builtin; go_must (refine wpList_appRs (.tmp 39) (.tmp 44) B (.slice a3 (p + 1) c3) ((p + 1)) (S ++ [⟨rk, rv, rg⟩]) 1 [⟨xk, xv, xg⟩] hsum2 ?_ ?_ ?_ ?_ ?_ ?_ ?_; exact rfl; exact rfl; exact rfl; exact ⟨_, _, rfl, new_row (r := ⟨xk, xv, xg⟩) rfl⟩; exact owns_below own3 (below_drewN (Below.refl _ _) _ |>.alloc (by simp) _); (focus (simp; omega)); intro a4 c4 w4 own4 b4))
          go_roundw
          case rel => exact ⟨t + 1, p + 1 + 1, a4, c4, true, _, by omega, by simp; omega, by go_num, rfl, rfl, HS.out, own4, ((below_drewN hB3 _).alloc (by simpa using hBs3) _).trans b4⟩
          case measure => simp [intOf]; omega
      | true =>
        simp only [Bool.toNat_true] at hp
        have hsum1 : p + 1 ≤ 2097152 := by omega
        have HOn' := hid (HOn.out rfl)
        have HOv' := hid (HOv.out rfl)
        clear HLo HSa HHi HOn HOv st
        by_cases hx : xk = rk
        · have hne : (xk != rk) = false := by simp; omega
          have HS := hid (HOv'.out hx)
          clear HOn' HOv' hx
          go_wp2
          go_quiet (fail)
          go_wp2
          go_quiet (fail)
          go_wp2
          go_roundw
          case rel => exact ⟨t + 1, p, a2, c2, true, _, by omega, by simp; omega, by go_num, rfl, rfl, HS.out, own, below_drewN hB _⟩
          case measure => simp [intOf]; omega
        · have hne : (xk != rk) = true := by simpa using hx
          have HS := hid (HOn'.out hx)
          clear HOn' HOv' hx
          go_wp2
          go_quiet (fail)
          go_wp2
          go_quiet (fail)
          go_wp2_with (at_builtin; go_must (refine wpList_appRs (.tmp 39) (.tmp 44) B (.slice a2 p c2) (p) (S) 1 [⟨xk, xv, xg⟩] hsum1 ?_ ?_ ?_ ?_ ?_ ?_ ?_; exact rfl; exact rfl; exact rfl; exact ⟨_, _, rfl, new_row (r := ⟨xk, xv, xg⟩) rfl⟩; exact owns_below own (below_drewN (Below.refl _ _) _ |>.alloc (by simp) _); (focus (simp; omega)); intro a3 c3 w3 own3 b3))
          go_roundw
          case rel => exact ⟨t + 1, p + 1, a3, c3, true, _, by omega, by simp; omega, by go_num, rfl, rfl, HS.out, own3, ((below_drewN hB _).alloc (by simpa using hBs) _).trans b3⟩
          case measure => simp [intOf]; omega
    · obtain rfl : t = n := by omega
      have hit : ¬ ((t : Int) < (t : Int)) := by omega
      have HNo := hid (fun (e : d = false) => Ch.InSt.endNo (e ▸ st.out) (by have := HL.out; omega))
      have HYe := hid (fun (e : d = true) => Ch.InSt.endYes (e ▸ st.out) (by have := HL.out; omega))
      have hBw : w.heap.size ≤ B := by have := HBe.out; omega
      cases d with
      | false =>
        simp only [Bool.toNat_false, Nat.add_zero] at hp
        have hsum1 : p + 1 ≤ 2097152 := by omega
        have HN := hid (HNo.out rfl)
        clear HNo HYe st
        go_wp2_with (at_builtin; go_must (refine wpList_appRs (.tmp 48) (.tmp 50) B (.slice a2 p c2) (p) (S) 1 [⟨rk, rv, rg⟩] hsum1 ?_ ?_ ?_ ?_ ?_ ?_ ?_; exact rfl; exact rfl; exact rfl; exact ⟨_, _, rfl, new_row (r := ⟨rk, rv, rg⟩) rfl⟩; exact owns_below own ((Below.refl _ _).alloc (Nat.le_refl _) _); (focus (simp; omega)); intro a3 c3 w3 own3 b3))
        go_ret
        have hBo3 : Below w.heap.size w w3 := ((hbw.alloc hbw.size _)).trans (b3.mono hBw)
        exact ⟨a3, p + 1, c3, rfl, by rw [HN.out]; exact owns_base own3 hBw, hBo3⟩
      | true =>
        have HY := hid (HYe.out rfl)
        clear HNo HYe st
        go_wp2
        go_ret
        exact ⟨a2, p, c2, rfl, by rw [HY.out]; exact owns_base own hBw, hbw⟩
end Go.Proofs.Ytjjbjdjkcckgmaa
