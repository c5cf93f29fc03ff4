/- Several texts in one: PutA, PutB, PutC, PutD, PutE, DrawN, DrawP, DrawB, DrawW, DrawX, DrawY, DrwS. -/
import Derived.Test.YthfanfnbjldddaaGreatInsG
import Derived.Test.YthfanfnbjldddaaGreatPutM
import Derived.Test.YthfanfnbjldddaaGreatDropI
import Derived.BigQuiet
import Derived.Test.YthfanfnbjldddaaGreatDropS
import Derived.Test.YthfanfnbjldddaaGreatPutN
import Derived.Test.YthfanfnbjldddaaGreatForW
import Derived.Deep.Cut
import Derived.Test.YthfanfnbjldddaaGreatDrawM
import Derived.Lib.AppendZeros


/- insertRow of the program: a row put in between. -/
namespace Go.Proofs.YthfanfnbjldddaaGreat
open Go.RowKit

theorem gr_chain {w W w' : World} {row : Option Nat} (hb : Below w.heap.size w W) (h : W.grownBy w' row) : w.grownBy w' row :=
  ⟨h.os.trans hb.os, h.tape.trans hb.tape, h.output.trans hb.output, Nat.le_trans hb.size h.size, fun k hk hne => (h.block k (Nat.lt_of_lt_of_le hk hb.size) hne).trans (hb.block k hk)⟩
theorem rcells_take (l : List Ch.Row) (i : Nat) : (rcells l).take (i * 3) = rcells (l.take i) := by
  by_cases h : i ≤ l.length
  · conv => lhs; rw [← List.take_append_drop i l, rcells_append]
    exact List.take_left' (by rw [rcells_len]; simp; omega)
  · rw [List.take_of_length_le (by rw [rcells_len]; omega), List.take_of_length_le (by omega)]
theorem rcells_drop (l : List Ch.Row) (i : Nat) : (rcells l).drop (i * 3) = rcells (l.drop i) := by
  by_cases h : i ≤ l.length
  · conv => lhs; rw [← List.take_append_drop i l, rcells_append]
    exact List.drop_left' (by rw [rcells_len]; simp; omega)
  · rw [List.drop_of_length_le (by rw [rcells_len]; omega), List.drop_of_length_le (by omega)]; rfl

set_option maxHeartbeats 4000000 in
theorem insertRow_any (B g n cap : Nat) (l : List Ch.Row) (rk rv : Int) (rg : Bool) (w : World) (hown : w.ownsRow B 53 3 (.slice (some ⟨g, 0, none⟩) n cap) n (rcells l)) (hn : n ≤ 1048576) (hB : B ≤ w.heap.size) :
    Calls Tryz.prog 78 #[.slice (some ⟨g, 0, none⟩) n cap, .agg #[.int .i64 rk, .int .i64 rv, .bool rg]] w fun e w' => ∃ g' c', e = .returned (.slice (some ⟨g', 0, none⟩) (n + 1) c') ∧ w'.ownsRow B 53 3 (.slice (some ⟨g', 0, none⟩) (n + 1) c') (n + 1) (rcells (l.take (Ch.insAt rk l) ++ [⟨rk, rv, rg⟩] ++ l.drop (Ch.insAt rk l))) ∧ w.grownBy w' (some g) ∧ (g' = g ∨ w.heap.size ≤ g') := by
  have hc := owns_cells hown
  have HL := hc.rlen
  have hgl : g < w.heap.size := (owns_lt hown g rfl).2
  have b0 : ∀ t, Below w.heap.size w (w.alloc (.cells #[.int .i64 rk, .int .i64 rv, .bool rg] t)) := fun t => (Below.refl _ _).alloc (Nat.le_refl _) _
  go_enter Tryz.func78, Tryz.ntmps78
  go_wp2
  go_loopw [5] (fun i wr => ∃ t : Nat, t ≤ n ∧ i = .int .i64 t ∧ (∀ j, j < t → (l.getD j Ch.Row.zero).k < rk) ∧ wr.cell? ⟨w.heap.size, 0, none⟩ = some (.int .i64 rk) ∧ wr.cell? ⟨w.heap.size, 1, none⟩ = some (.int .i64 rv) ∧ wr.cell? ⟨w.heap.size, 2, none⟩ = some (.bool rg) ∧ Below w.heap.size w wr) (fun i _ => n - (intOf i).toNat)
  case atStart => exact ⟨0, Nat.zero_le _, rfl, fun j hj => absurd hj (by omega), by simp [go_sem], by simp [go_sem], by simp [go_sem], b0 _⟩
  case round =>
    obtain ⟨t, ht, rfl, hlow, r0, r1, r2, hB1⟩ := hrel
    have HLow := hid hlow
    clear hlow
    have hown1 := owns_below hown hB1
    have hstop : (t < n → ¬ (l.getD t Ch.Row.zero).k < rk) → wr.ownsRow B 53 3 (.slice (some ⟨g, 0, none⟩) n cap) n (rcells l) → Ch.insAt rk l = t := fun hs _ => Ch.insAt_eq (by have := HL.out; omega) HLow.out (fun h => hs (by have := HL.out; omega))
    have hins : ∀ q, Calls Tryz.prog 94 #[.slice (some ⟨g, 0, none⟩) n cap, .int .i64 t, .slice (some ⟨wr.heap.size, 0, none⟩) 1 1] ((wr.drewN q).alloc (.cells #[.int .i64 rk, .int .i64 rv, .bool rg] 53)) fun e w' => ∃ g' c', e = .returned (.slice (some ⟨g', 0, none⟩) (n + 1) c') ∧ w'.ownsRow B 53 3 (.slice (some ⟨g', 0, none⟩) (n + 1) c') (n + 1) (rcells (l.take t ++ [⟨rk, rv, rg⟩] ++ l.drop t)) ∧ w.grownBy w' (some g) ∧ (g' = g ∨ w.heap.size ≤ g') := by
      intro q
      have bq : Below w.heap.size w ((wr.drewN q).alloc (.cells #[.int .i64 rk, .int .i64 rv, .bool rg] 53)) := (below_drewN hB1 q).alloc hB1.size _
      refine (insertR_any B g n cap t wr.heap.size (rcells l) (rcells [⟨rk, rv, rg⟩]) _ (owns_below hown bq) (heap_newI rfl) rfl (rcells_one _) (rcells_one _) hn ht (by have := bq.size; omega) (by have := hB1.size; omega)).mono ?_
      rintro e w' ⟨g', c', rfl, own', gr', h'⟩
      refine ⟨g', c', rfl, ?_, gr_chain bq gr', ?_⟩
      · rw [rcells_append, rcells_append, ← rcells_take, ← rcells_drop]; exact own'
      · rcases h' with h' | h'
        · exact .inl h'
        · exact .inr (by have := bq.size; omega)
    by_cases hlt : t < n
    · obtain ⟨b1, o1, he, q0, q1, q2⟩ := (hc.below hB1).row hlt
      simp only [Option.some.injEq, Addr.mk.injEq, and_true] at he
      obtain ⟨rfl, rfl⟩ := he
      have HN := hid (fun h => Ch.insAt_eq (key := rk) (l := l) (t := t) (by have := HL.out; omega) HLow.out (fun _ => h))
      have HY : Hid ((l.getD t Ch.Row.zero).k < rk → ∀ j, j < t + 1 → (l.getD j Ch.Row.zero).k < rk) := fun h j hj => by
        by_cases e : j = t
        · rw [e]; exact h
        · exact HLow.out j (by omega)
      generalize (l.getD t Ch.Row.zero).k = xk at *
      clear q1 q2 HLow hstop
      rw [Nat.zero_add] at q0
      have hit : ((t : Int) < (n : Int)) := by omega
      by_cases hk : xk < rk
      · have hd : decide (xk < rk) = true := by simpa using hk
        have HY' := hid (HY.out hk)
        clear HY HN hins hk
        go_wp2
        go_quiet (fail)
        go_wp2
        go_roundw
        case rel => exact ⟨t + 1, by omega, by go_num, HY'.out, r0, r1, r2, below_drewN hB1 _⟩
        case measure => simp [intOf]; omega
      · have hd : decide (xk < rk) = false := by simpa using hk
        have HN' := hid (HN.out hk)
        clear HY HN hk
        go_wp2
        go_quiet (fail)
        go_wp2_with fail
        refine (hins _).mono ?_
        rintro e w' ⟨g', c', rfl, own', gr', h'⟩
        go_wp2
        go_ret
        rw [HN'.out]
        exact ⟨g', c', rfl, own', gr', h'⟩
    · obtain rfl : t = n := by omega
      have HN := hid (hstop (fun h => absurd h (by omega)) hown1)
      have hd : ¬ ((t : Int) < (t : Int)) := by omega
      clear hstop
      go_wp2
      go_quiet (fail)
      go_wp2_with fail
      refine (hins _).mono ?_
      rintro e w' ⟨g', c', rfl, own', gr', h'⟩
      go_wp2
      go_ret
      rw [HN.out]
      exact ⟨g', c', rfl, own', gr', h'⟩
end Go.Proofs.YthfanfnbjldddaaGreat


/- l3Into of the model: a row put into rows. -/
namespace Go.Proofs.YthfanfnbjldddaaGreat
open Go.RowKit

set_option maxHeartbeats 8000000 in
theorem specInto_any (a : Option Addr) (n cap : Nat) (l : List Ch.Row) (rk rv : Int) (rg : Bool) (w : World) (h : CellsAt w a (n * 3) (rcells l)) (hn : n ≤ 1048576) :
    Calls Tryz.prog 85 #[.slice a n cap, .agg #[.int .i64 rk, .int .i64 rv, .bool rg]] w fun e w' => ∃ a' m c', e = .returned (.slice a' m c') ∧ w'.ownsRow w.heap.size 53 3 (.slice a' m c') m (rcells (Ch.into ⟨rk, rv, rg⟩ l)) ∧ Below w.heap.size w w' := by
  have HL := h.rlen
  have bA : ∀ (W : World) o, Below W.heap.size W (W.alloc o) := fun W o => (Below.refl _ _).alloc (Nat.le_refl _) _
  go_enter Tryz.func85, Tryz.ntmps85
  go_wp2
  obtain ⟨B, HBe⟩ : ∃ B, Hid (B = w.heap.size + 1) := ⟨_, rfl⟩
  go_loopw [5, 6, 7] (fun q dv i wr => ∃ (t p : Nat) (a2 : Option Addr) (c2 : Nat) (d : Bool) (S : List Ch.Row), t ≤ n ∧ p ≤ t + d.toNat ∧ i = .int .i64 t ∧ dv = .bool d ∧ q = .slice a2 p c2 ∧ Hid (Ch.InSt ⟨rk, rv, rg⟩ l t d S) ∧ wr.ownsRow B 53 3 (.slice a2 p c2) p (rcells S) ∧ Below B (w.alloc (.cells #[.int .i64 rk, .int .i64 rv, .bool rg] 53)) wr) (fun _ _ i _ => n - (intOf i).toNat)
  case atStart =>
    have e := HBe.out
    subst e
    refine ⟨0, 0, _, _, false, [], Nat.zero_le _, by simp, rfl, rfl, rfl, Ch.InSt.start _ _, ?_, ?_⟩
    · have := empty_rows (w.alloc (.cells #[.int .i64 rk, .int .i64 rv, .bool rg] 53)) (w.heap.size + 1) (by simp)
      simpa using this
    · exact (Below.refl _ _).alloc (by simp) _
  case round =>
    obtain ⟨t, p, a2, c2, d, S, ht, hp, rfl, rfl, rfl, st, own, hB⟩ := hrel
    have hBs : B ≤ wr.heap.size := by have := hB.size; have := HBe.out; simp at *; omega
    have hBo : Below (w.alloc (.cells #[.int .i64 rk, .int .i64 rv, .bool rg] 53)).heap.size (w.alloc (.cells #[.int .i64 rk, .int .i64 rv, .bool rg] 53)) wr := by
      have := HBe.out; subst this; simpa using hB
    have r0 := box_cell hBo 0
    have r1 := box_cell hBo 1
    have r2 := box_cell hBo 2
    simp at r0 r1 r2
    have hbw := below_box hBo
    clear hBo
    by_cases hlt : t < n
    · have htl : t < l.length := by have := HL.out; omega
      obtain ⟨b1, o1, rfl, y0, y1, y2⟩ := h.row hlt
      have HLo := hid (fun (e : d = false) => Ch.InSt.low (e ▸ st.out) htl)
      have HSa := hid (fun (e : d = false) => Ch.InSt.same (e ▸ st.out) htl)
      have HHi := hid (fun (e : d = false) => Ch.InSt.high (e ▸ st.out) htl)
      have HOn := hid (fun (e : d = true) => Ch.InSt.on (e ▸ st.out) htl)
      have HOv := hid (fun (e : d = true) => Ch.InSt.over (e ▸ st.out) htl)
      generalize l.getD t Ch.Row.zero = rr at *
      obtain ⟨xk, xv, xg⟩ := rr
      simp only at y0 y1 y2 HLo HSa HHi HOn HOv
      have q0 := keep_cell hbw y0
      have q1 := keep_cell hbw y1
      have q2 := keep_cell hbw y2
      have hit : ((t : Int) < (n : Int)) := by omega
      cases d with
      | false =>
        simp only [Bool.toNat_false, Nat.add_zero] at hp
        have hsum1 : p + 1 ≤ 2097152 := by omega
        have hsum2 : p + 1 + 1 ≤ 2097152 := by omega
        have HLo' := hid (HLo.out rfl)
        have HSa' := hid (HSa.out rfl)
        have HHi' := hid (HHi.out rfl)
        clear HLo HSa HHi HOn HOv st
        rcases Int.lt_trichotomy xk rk with hx | hx | hx
        · have hd : decide (xk ≥ rk) = false := by simp; omega
          have hne : (xk != rk) = true := by simp; omega
          have HS := hid (HLo'.out hx)
          clear HLo' HSa' HHi' hx
          go_wp2
          go_quiet (fail)
          go_wp2
          go_quiet (fail)
          go_wp2_with (at_builtin; go_must (refine wpList_appRs (.tmp 39) (.tmp 44) B (.slice a2 p c2) p S 1 [⟨xk, xv, xg⟩] hsum1 ?_ ?_ ?_ ?_ ?_ ?_ ?_; exact rfl; exact rfl; exact rfl; exact ⟨_, _, rfl, new_row (r := ⟨xk, xv, xg⟩) rfl⟩; exact owns_below own (below_drewN (Below.refl _ _) _ |>.alloc (by simp) _); (focus (simp; omega)); intro a3 c3 w3 own3 b3))
          go_roundw
          case rel => exact ⟨t + 1, p + 1, a3, c3, false, _, by omega, by simp; omega, by go_num, rfl, rfl, HS.out, own3, ((below_drewN hB _).alloc (by simpa using hBs) _).trans b3⟩
          case measure => simp [intOf]; omega
        · have hd : decide (xk ≥ rk) = true := by simp; omega
          have hne : (xk != rk) = false := by simp; omega
          have HS := hid (HSa'.out hx)
          clear HLo' HSa' HHi' hx
          go_wp2
          go_quiet (fail)
          go_wp2_with (at_builtin; go_must (refine wpList_appRs (.tmp 27) (.tmp 29) B (.slice a2 p c2) (p) (S) 1 [⟨rk, rv, rg⟩] hsum1 ?_ ?_ ?_ ?_ ?_ ?_ ?_; exact rfl; exact rfl; exact rfl; exact ⟨_, _, rfl, new_row (r := ⟨rk, rv, rg⟩) rfl⟩; exact owns_below own (below_drewN (Below.refl _ _) _ |>.alloc (by simp) _); (focus (simp; omega)); intro a3 c3 w3 own3 b3))
          have hB3 := ((below_drewN hB _).alloc (by simpa using hBs) _).trans b3
          have hBs3 : B ≤ w3.heap.size := by have := hB3.size; have := HBe.out; simp at *; omega
          have hBo3 : Below (w.alloc (.cells #[.int .i64 rk, .int .i64 rv, .bool rg] 53)).heap.size (w.alloc (.cells #[.int .i64 rk, .int .i64 rv, .bool rg] 53)) w3 := by
            have := HBe.out; subst this; simpa using hB3
          have r0 := box_cell hBo3 0
          have r1 := box_cell hBo3 1
          have r2 := box_cell hBo3 2
          simp at r0 r1 r2
          have hbw3 := below_box hBo3
          clear hBo3
          have q0 := keep_cell hbw3 y0
          have q1 := keep_cell hbw3 y1
          have q2 := keep_cell hbw3 y2
          go_quiet (fail)
          go_wp2
          go_roundw
          case rel => exact ⟨t + 1, p + 1, a3, c3, true, _, by omega, by simp; omega, by go_num, rfl, rfl, HS.out, own3, below_drewN hB3 _⟩
          case measure => simp [intOf]; omega
        · have hd : decide (xk ≥ rk) = true := by simp; omega
          have hne : (xk != rk) = true := by simp; omega
          have HS := hid (HHi'.out hx)
          clear HLo' HSa' HHi' hx
          go_wp2
          go_quiet (fail)
          go_wp2_with (at_builtin; go_must (refine wpList_appRs (.tmp 27) (.tmp 29) B (.slice a2 p c2) (p) (S) 1 [⟨rk, rv, rg⟩] hsum1 ?_ ?_ ?_ ?_ ?_ ?_ ?_; exact rfl; exact rfl; exact rfl; exact ⟨_, _, rfl, new_row (r := ⟨rk, rv, rg⟩) rfl⟩; exact owns_below own (below_drewN (Below.refl _ _) _ |>.alloc (by simp) _); (focus (simp; omega)); intro a3 c3 w3 own3 b3))
          have hB3 := ((below_drewN hB _).alloc (by simpa using hBs) _).trans b3
          have hBs3 : B ≤ w3.heap.size := by have := hB3.size; have := HBe.out; simp at *; omega
          have hBo3 : Below (w.alloc (.cells #[.int .i64 rk, .int .i64 rv, .bool rg] 53)).heap.size (w.alloc (.cells #[.int .i64 rk, .int .i64 rv, .bool rg] 53)) w3 := by
            have := HBe.out; subst this; simpa using hB3
          have r0 := box_cell hBo3 0
          have r1 := box_cell hBo3 1
          have r2 := box_cell hBo3 2
          simp at r0 r1 r2
          have hbw3 := below_box hBo3
          clear hBo3
          have q0 := keep_cell hbw3 y0
          have q1 := keep_cell hbw3 y1
          have q2 := keep_cell hbw3 y2
          go_quiet (fail)
          go_wp2_with (at_builtin; go_must (refine wpList_appRs (.tmp 39) (.tmp 44) B (.slice a3 (p + 1) c3) ((p + 1)) (S ++ [⟨rk, rv, rg⟩]) 1 [⟨xk, xv, xg⟩] hsum2 ?_ ?_ ?_ ?_ ?_ ?_ ?_; exact rfl; exact rfl; exact rfl; exact ⟨_, _, rfl, new_row (r := ⟨xk, xv, xg⟩) rfl⟩; exact owns_below own3 (below_drewN (Below.refl _ _) _ |>.alloc (by simp) _); (focus (simp; omega)); intro a4 c4 w4 own4 b4))
          go_roundw
          case rel => exact ⟨t + 1, p + 1 + 1, a4, c4, true, _, by omega, by simp; omega, by go_num, rfl, rfl, HS.out, own4, ((below_drewN hB3 _).alloc (by simpa using hBs3) _).trans b4⟩
          case measure => simp [intOf]; omega
      | true =>
        simp only [Bool.toNat_true] at hp
        have hsum1 : p + 1 ≤ 2097152 := by omega
        have HOn' := hid (HOn.out rfl)
        have HOv' := hid (HOv.out rfl)
        clear HLo HSa HHi HOn HOv st
        by_cases hx : xk = rk
        · have hne : (xk != rk) = false := by simp; omega
          have HS := hid (HOv'.out hx)
          clear HOn' HOv' hx
          go_wp2
          go_quiet (fail)
          go_wp2
          go_quiet (fail)
          go_wp2
          go_roundw
          case rel => exact ⟨t + 1, p, a2, c2, true, _, by omega, by simp; omega, by go_num, rfl, rfl, HS.out, own, below_drewN hB _⟩
          case measure => simp [intOf]; omega
        · have hne : (xk != rk) = true := by simpa using hx
          have HS := hid (HOn'.out hx)
          clear HOn' HOv' hx
          go_wp2
          go_quiet (fail)
          go_wp2
          go_quiet (fail)
          go_wp2_with (at_builtin; go_must (refine wpList_appRs (.tmp 39) (.tmp 44) B (.slice a2 p c2) (p) (S) 1 [⟨xk, xv, xg⟩] hsum1 ?_ ?_ ?_ ?_ ?_ ?_ ?_; exact rfl; exact rfl; exact rfl; exact ⟨_, _, rfl, new_row (r := ⟨xk, xv, xg⟩) rfl⟩; exact owns_below own (below_drewN (Below.refl _ _) _ |>.alloc (by simp) _); (focus (simp; omega)); intro a3 c3 w3 own3 b3))
          go_roundw
          case rel => exact ⟨t + 1, p + 1, a3, c3, true, _, by omega, by simp; omega, by go_num, rfl, rfl, HS.out, own3, ((below_drewN hB _).alloc (by simpa using hBs) _).trans b3⟩
          case measure => simp [intOf]; omega
    · obtain rfl : t = n := by omega
      have hit : ¬ ((t : Int) < (t : Int)) := by omega
      have HNo := hid (fun (e : d = false) => Ch.InSt.endNo (e ▸ st.out) (by have := HL.out; omega))
      have HYe := hid (fun (e : d = true) => Ch.InSt.endYes (e ▸ st.out) (by have := HL.out; omega))
      have hBw : w.heap.size ≤ B := by have := HBe.out; omega
      cases d with
      | false =>
        simp only [Bool.toNat_false, Nat.add_zero] at hp
        have hsum1 : p + 1 ≤ 2097152 := by omega
        have HN := hid (HNo.out rfl)
        clear HNo HYe st
        go_wp2_with (at_builtin; go_must (refine wpList_appRs (.tmp 48) (.tmp 50) B (.slice a2 p c2) (p) (S) 1 [⟨rk, rv, rg⟩] hsum1 ?_ ?_ ?_ ?_ ?_ ?_ ?_; exact rfl; exact rfl; exact rfl; exact ⟨_, _, rfl, new_row (r := ⟨rk, rv, rg⟩) rfl⟩; exact owns_below own ((Below.refl _ _).alloc (Nat.le_refl _) _); (focus (simp; omega)); intro a3 c3 w3 own3 b3))
        go_ret
        have hBo3 : Below w.heap.size w w3 := ((hbw.alloc hbw.size _)).trans (b3.mono hBw)
        exact ⟨a3, p + 1, c3, rfl, by rw [HN.out]; exact owns_base own3 hBw, hBo3⟩
      | true =>
        have HY := hid (HYe.out rfl)
        clear HNo HYe st
        go_wp2
        go_ret
        exact ⟨a2, p, c2, rfl, by rw [HY.out]; exact owns_base own hBw, hbw⟩
end Go.Proofs.YthfanfnbjldddaaGreat


/- l3Copy of the model: leaves copied. -/
namespace Go.Proofs.YthfanfnbjldddaaGreat
open Go.RowKit

set_option maxHeartbeats 4000000 in
theorem specCopy_any (a : Option Addr) (n cap : Nat) (ls : List (List Ch.Row)) (w : World) (h : LvAt w a n ls) (hs : Ch.lvSize ls ≤ 1048576) (hg : ∀ k, k < n → (ls.getD k []).length ≠ 0) :
    Calls Tryz.prog 59 #[.slice a n cap] w fun e w' => ∃ a' c', e = .returned (.slice a' n c') ∧ OwnLv w' w.heap.size (.slice a' n c') n ls ∧ Below w.heap.size w w' := by
  have HL := h.len
  have hn : n ≤ 1048576 := by unfold Ch.lvSize at hs; have := HL.out; omega
  have o0 := empty_leaves w w.heap.size (Nat.le_refl _)
  have O0 : OwnLv (w.alloc (.cells #[] 80)) w.heap.size (.slice (some ⟨w.heap.size, 0, none⟩) 0 0) 0 [] := ⟨rfl, [], o0, fun i hi => absurd hi (by omega), fun i j x y g _ hx => by simp at hx, fun i x g hx => by simp at hx⟩
  clear o0
  go_enter Tryz.func59, Tryz.ntmps59
  go_wp2
  go_loopw [3, 4] (fun q i wr => ∃ (k : Nat) (a' : Option Addr) (c' : Nat), k ≤ n ∧ i = .int .i64 k ∧ q = .slice a' k c' ∧ OwnLv wr w.heap.size (.slice a' k c') k (ls.take k) ∧ Below w.heap.size w wr) (fun _ i _ => n - (intOf i).toNat)
  case atStart => exact ⟨0, _, _, Nat.zero_le _, rfl, rfl, by simpa using O0, (Below.refl _ _).alloc (Nat.le_refl _) _⟩
  case round =>
    clear O0
    obtain ⟨k, a', c', hk, rfl, rfl, own, hB⟩ := hrel
    by_cases hlt : k < n
    · have hkl : k < ls.length := by have := HL.out; omega
      have HS := hid (Ch.lv_leaf hs k)
      have HT := hid (Ch.take_snoc ls [] k hkl)
      have hl0 := hg k hlt
      obtain ⟨b, off, ai, ni, ci, rfl, hc, hr, hni⟩ := h.leaf hlt
      have HRl := hr.rlen
      have hni' : ni ≤ 1048576 := by have := HS.out; have := HRl.out; omega
      have hni0 : 0 < ni := by have := HRl.out; omega
      generalize ls.getD k [] = l at *
      generalize ls.take k = DL at *
      clear HS hl0
      have hcr := keep_cell hB hc
      have hrr := hr.below hB
      have hbl := lt_of_cell hcr
      obtain ⟨bi, oi, rfl, _⟩ := hr.2 (by omega)
      have e0 := empty_rows wr wr.heap.size (Nat.le_refl _)
      have bR : Below wr.heap.size wr (wr.alloc (.cells #[] 53)) := (Below.refl _ _).alloc (Nat.le_refl _) _
      have hr1 := hrr.below bR
      obtain ⟨vs, hV⟩ := own.told
      have hoV := hV.2.1
      have hsum : k + 1 ≤ 2097152 := by omega
      have hsum0 : 0 + ni ≤ 2097152 := by omega
      have bA : ∀ (W : World) o, Below W.heap.size W (W.alloc o) := fun W o => (Below.refl _ _).alloc (Nat.le_refl _) _
      have hBs := hB.size
      go_wp2_with (at_builtin; first | (refine wpList_appRs (.tmp 13) (.tmp 18) wr.heap.size (.slice (some ⟨wr.heap.size, 0, none⟩) 0 0) 0 [] ni l hsum0 ?_ ?_ ?_ ?_ ?_ ?_ ?_; exact rfl; exact rfl; exact rfl; exact ⟨_, _, rfl, hr1⟩; exact e0; (focus (simp; done)); intro a2 c2 w2 own2 b2; have b2' := bR.trans b2; have own2' := owns_below hoV b2'; simp only [Nat.zero_add, List.nil_append] at own2) | (go_must (refine wpList_appLv (.tmp 12) (.tmp 21) w.heap.size (.slice a' k c') k vs 1 [.slice a2 ni c2] hsum (by simp [Value.oneCell']) ?_ ?_ ?_ ?_ ?_ ?_ ?_ (by omega); exact rfl; exact rfl; exact rfl; exact ⟨_, _, rfl, one_leaf rfl⟩; exact owns_below own2' (bA _ _); (focus (have := b2'.size; simp; omega)); intro a3 c3 w3 own3 gr3 at3)))
      go_roundw
      case rel =>
        have hbq := hB.trans (b2'.mono hBs)
        refine ⟨k + 1, a3, c3, by omega, by go_num, rfl, ?_, ?_⟩
        · rw [HT.out]
          refine OwnLv.snoc hV b2' ?_ hBs rfl own3 gr3 at3
          have := HRl.out
          rw [← this]
          exact own2
        · refine (hbq.alloc hbq.size _).grown gr3 (by have := hbq.size; simp; omega) ?_
          intro j hj
          exact (owns_lt hoV j hj).1
      case measure => simp [intOf]; omega
    · obtain rfl : k = n := by omega
      go_wp2
      go_ret
      have e1 := HL.out
      rw [List.take_of_length_le (by omega)] at own
      exact ⟨a', c', rfl, own, hB⟩
end Go.Proofs.YthfanfnbjldddaaGreat


/- Leaves that are named, not owned; one row as leaves. -/
namespace Go.Proofs.YthfanfnbjldddaaGreat
open Go.RowKit

/-- Rows that lie behind a list, apart from the block of v. -/
def RefR (w : World) (v : Value) (ai : Option Addr) (ni : Nat) (l : List Ch.Row) : Prop :=
  CellsAt w ai (ni * 3) (rcells l) ∧ ni ≤ 9223372036854775807 ∧ ∀ b off, ai = some ⟨b, off, none⟩ → b < w.heap.size ∧ v.ownBlock ≠ some b
def RefLv (w : World) (B : Nat) (v : Value) (n : Nat) (vs : List Value) (ls : List (List Ch.Row)) : Prop :=
  ls.length = n ∧ w.ownsRow B 80 1 v n vs ∧ ∀ i, i < n → ∃ ai ni ci, vs[i]? = some (.slice ai ni ci) ∧ RefR w v ai ni (ls.getD i [])

theorem CellsAt.grown {w w' : World} {row : Option Nat} {a : Option Addr} {m : Nat} {xs : List Value} (h : CellsAt w a m xs) (hg : w.grownBy w' row) (hne : ∀ b off, a = some ⟨b, off, none⟩ → row ≠ some b) : CellsAt w' a m xs := by
  refine ⟨h.1, fun hm => ?_⟩
  obtain ⟨b, off, ha, hc⟩ := h.2 hm
  refine ⟨b, off, ha, fun i hi => ?_⟩
  have := hc i hi
  have hx : xs[i]? = some (xs[i]'(by rw [h.1]; exact hi)) := by simp
  rw [hx] at this ⊢
  exact grown_cell hg this (hne b off ha)
theorem RefR.move {w W w2 : World} {v v' : Value} {ai : Option Addr} {ni : Nat} {l : List Ch.Row} (h : RefR w v ai ni l) (hb : Below w.heap.size w W) (hg : W.grownBy w2 v.ownBlock) (hat : ∀ g, v'.ownBlock = some g → v.ownBlock = some g ∨ W.heap.size ≤ g) : RefR w2 v' ai ni l := by
  obtain ⟨h1, h2, h3⟩ := h
  refine ⟨(h1.below hb).grown hg (fun b off e => (h3 b off e).2), h2, fun b off e => ⟨?_, fun hv => ?_⟩⟩
  · have := (h3 b off e).1
    have := hb.size
    have := hg.size
    omega
  · have h4 := (h3 b off e).1
    have := hb.size
    rcases hat b hv with h5 | h5
    · exact (h3 b off e).2 h5
    · omega
theorem RefLv.at {w : World} {B : Nat} {a : Option Addr} {n cap : Nat} {vs : List Value} {ls : List (List Ch.Row)} (h : RefLv w B (.slice a n cap) n vs ls) : LvAt w a n ls := by
  obtain ⟨hl, ho, hi⟩ := h
  have hc := owns_cells ho
  rw [Nat.mul_one] at hc
  refine ⟨hl, vs, hc, fun i hlt => ?_⟩
  obtain ⟨ai, ni, ci, h1, h2⟩ := hi i hlt
  exact ⟨ai, ni, ci, h1, h2.1, h2.2.1⟩
theorem RefLv.app {w0 W w2 : World} {B n m : Nat} {v v' : Value} {vs xs : List Value} {ls nl : List (List Ch.Row)} (h : RefLv w0 B v n vs ls) (hb : Below w0.heap.size w0 W)
    (hl : nl.length = xs.length) (hm : m = n + xs.length) (hx : ∀ i, i < xs.length → ∃ w1 ai ni ci, xs[i]? = some (.slice ai ni ci) ∧ Below w1.heap.size w1 W ∧ RefR w1 v ai ni (nl.getD i []))
    (h2 : w2.ownsRow B 80 1 v' m (vs ++ xs)) (hg : W.grownBy w2 v.ownBlock) (hat : ∀ g, v'.ownBlock = some g → v.ownBlock = some g ∨ W.heap.size ≤ g) : RefLv w2 B v' m (vs ++ xs) (ls ++ nl) := by
  subst hm
  obtain ⟨hll, ho, hi⟩ := h
  have hvl : vs.length = n := by have := ho.1; omega
  refine ⟨by simp [hll, hl], h2, fun i hlt => ?_⟩
  by_cases hin : i < n
  · obtain ⟨ai, ni, ci, h1, h3⟩ := hi i hin
    refine ⟨ai, ni, ci, by rw [List.getElem?_append_left (by omega)]; exact h1, ?_⟩
    have e : (ls ++ nl).getD i [] = ls.getD i [] := by simp [List.getD, List.getElem?_append_left (show i < ls.length by omega)]
    rw [e]
    exact h3.move hb hg hat
  · obtain ⟨w1, ai, ni, ci, h1, hb1, h3⟩ := hx (i - n) (by omega)
    refine ⟨ai, ni, ci, by rw [List.getElem?_append_right (by omega), hvl]; exact h1, ?_⟩
    have e : (ls ++ nl).getD i [] = nl.getD (i - n) [] := by
      simp only [List.getD]
      rw [List.getElem?_append_right (by omega), hll]
    rw [e]
    exact h3.move hb1 hg hat
theorem CellsAt.cutL {w : World} {g o n k : Nat} {l : List Ch.Row} (h : CellsAt w (some ⟨g, o, none⟩) (n * 3) (rcells l)) (hk : k ≤ n) : CellsAt w (some ⟨g, o, none⟩) (k * 3) (rcells (l.take k)) := by
  have hl := h.rlen.out
  refine ⟨by rw [rcells_len]; simp; omega, fun hm => ?_⟩
  obtain ⟨b, off, ha, hc⟩ := h.2 (by omega)
  refine ⟨b, off, ha, fun i hi => ?_⟩
  rw [hc i (by omega), ← rcells_take, List.getElem?_take, if_pos hi]
theorem CellsAt.cutR {w : World} {g o n k : Nat} {l : List Ch.Row} (h : CellsAt w (some ⟨g, o, none⟩) (n * 3) (rcells l)) (hk : k ≤ n) : CellsAt w (some ⟨g, o + k * 3, none⟩) ((n - k) * 3) (rcells (l.drop k)) := by
  have hl := h.rlen.out
  refine ⟨by rw [rcells_len]; simp; omega, fun hm => ?_⟩
  obtain ⟨b, off, ha, hc⟩ := h.2 (by omega)
  simp only [Option.some.injEq, Addr.mk.injEq, and_true] at ha
  obtain ⟨rfl, rfl⟩ := ha
  refine ⟨g, o + k * 3, rfl, fun i hi => ?_⟩
  rw [show o + k * 3 + i = o + (k * 3 + i) by omega, hc (k * 3 + i) (by omega), ← rcells_drop, List.getElem?_drop]
theorem two_leaves {w : World} {x y : Value} {t : TypeId} {H : Nat} (hH : H = w.heap.size) : CellsAt (w.alloc (.cells #[x, y] t)) (some ⟨H, 0, none⟩) 2 [x, y] := by
  subst hH
  refine ⟨rfl, fun _ => ⟨_, _, rfl, fun i hi => ?_⟩⟩
  rw [Nat.zero_add]
  have := cell_of_row (w.alloc (.cells #[x, y] t)) _ i _ _ _ (heap_alloc_new w _)
  rw [this]
  simp
/-- One leaf of one row. -/
theorem one_put (W : World) (B : Nat) (rk rv : Int) (rg : Bool) (hB : B ≤ W.heap.size) : OwnLv ((W.alloc (.cells #[.int .i64 rk, .int .i64 rv, .bool rg] 53)).alloc (.cells #[.slice (some ⟨W.heap.size, 0, none⟩) 1 1] 80)) B (.slice (some ⟨W.heap.size + 1, 0, none⟩) 1 1) 1 [[⟨rk, rv, rg⟩]] := by
  have o1 : (W.alloc (.cells #[.int .i64 rk, .int .i64 rv, .bool rg] 53)).ownsRow B 53 3 (.slice (some ⟨W.heap.size, 0, none⟩) 1 1) 1 (rcells [⟨rk, rv, rg⟩]) := World.ownsRow_lit W #[.int .i64 rk, .int .i64 rv, .bool rg] 1 hB (by unfold maxLen; omega) rfl
  have o2 := World.ownsRow_lit (base := B) (e := 80) (size := 1) (W.alloc (.cells #[.int .i64 rk, .int .i64 rv, .bool rg] 53)) #[.slice (some ⟨W.heap.size, 0, none⟩) 1 1] 1 (by simp; omega) (by unfold maxLen; omega) rfl
  rw [show (W.alloc (.cells #[.int .i64 rk, .int .i64 rv, .bool rg] 53)).heap.size = W.heap.size + 1 by simp] at o2
  refine ⟨rfl, [.slice (some ⟨W.heap.size, 0, none⟩) 1 1], o2, fun i hi => ?_, ?_, ?_⟩
  · obtain rfl : i = 0 := by omega
    exact ⟨_, rfl, owns_below o1 ((Below.refl _ _).alloc (Nat.le_refl _) _)⟩
  · intro i j x y g hij hx hy
    have : j < 1 := by
      rcases Nat.lt_or_ge j 1 with h | h
      · exact h
      · rw [List.getElem?_eq_none (by simpa using h)] at hy; cases hy
    omega
  · intro i x g hx hv
    have : i = 0 := by
      rcases Nat.lt_or_ge i 1 with h | h
      · omega
      · rw [List.getElem?_eq_none (by simpa using h)] at hx; cases hx
    subst this
    simp at hx
    subst hx
    simp [Value.ownBlock] at hv ⊢
    omega
end Go.Proofs.YthfanfnbjldddaaGreat


/- l3Put of the model. -/
namespace Go.Proofs.YthfanfnbjldddaaGreat
open Go.RowKit

theorem step_appLv {ops : Array Oper} {o : Oper} {a : Act} {w : World} {K : Act → World → Prop} {Q : Exit → Act → World → Prop} {E : Prop} (s x : Operand)
    (B : Nat) (v : Value) (n : Nat) (xs : List Value) (m : Nat) (ys : List Value) (hm : n + m ≤ 2097152) (h1 : ∀ u ∈ ys, u.oneCell' = true)
    (ho : o.op = .call { callee := .builtin .append, args := #[s, x], argTypes := #[24, 24] }) (hgd : o.guard = none)
    (hs : a.eval s = v) (hx : ∃ ad c, a.eval x = .slice (some ad) m c ∧ CellsAt w (some ad) m ys)
    (hown : w.ownsRow B 80 1 v n xs) (hbase : B ≤ w.heap.size)
    (hK : ∀ a' c' w', w'.ownsRow B 80 1 (.slice a' (n + m) c') (n + m) (xs ++ ys) → w.grownBy w' v.ownBlock → (∀ g, (Value.slice a' (n + m) c').ownBlock = some g → v.ownBlock = some g ∨ w.heap.size ≤ g) → K (a.put o.dst (.slice a' (n + m) c')) w') (hm0 : 0 < m) :
    if Region.wanted o (yielded ops a.tmps) = true then Oper.wp Tryz.prog o a w K Q else E := by
  obtain ⟨ad, c, hx, hc⟩ := hx
  obtain ⟨i0, hi, hz0, hz1, hz2⟩ := info_parts Tryz.info80
  refine step_append_lies w hgd s x 24 ho B 80 i0 _ 1 24 Tryz.underlying24 hi hz0 hz1 hz2 rfl (by omega) v n xs hs hown ad m c ys hx (by rw [Nat.mul_one]; exact hc.1) ?_ h1 hm0 (by unfold maxLen; omega) (by omega) hbase _ rfl ?_
  · intro j u hj
    have hjl : j < ys.length := (List.getElem?_eq_some_iff.1 hj).1
    have hl := hc.1
    obtain ⟨b, off, ha, hcc⟩ := hc.2 (by omega)
    simp only [Option.some.injEq] at ha
    subst ha
    have e : (⟨b, off, none⟩ : Addr).add j = ⟨b, off + j, none⟩ := by
      unfold Addr.add
      split
      · next h0 => subst h0; rfl
      · rfl
    rw [e, hcc j (by omega), hj]
  · intro g cp' w' hown' hgrow hat hlt
    refine hK _ _ w' hown' hgrow fun g' hg' => ?_
    simp [Value.ownBlock] at hg'
    subst hg'
    rcases hat with hat | hat
    · exact .inl hat
    · exact .inr (by omega)

set_option linter.unusedSimpArgs false in
set_option maxHeartbeats 8000000 in
theorem specPut_any (a : Option Addr) (n cap : Nat) (ls : List (List Ch.Row)) (rk rv : Int) (rg : Bool) (w : World) (h : LvAt w a n ls) (hs : Ch.lvSize ls ≤ 1048576) (hf : Ch.leavesFault ls = 0) :
    Calls Tryz.prog 57 #[.slice a n cap, .agg #[.int .i64 rk, .int .i64 rv, .bool rg]] w fun e w' => ∃ a' m c', e = .returned (.slice a' m c') ∧ OwnLv w' w.heap.size (.slice a' m c') m (Ch.put ls ⟨rk, rv, rg⟩) ∧ Below w.heap.size w w' := by
  have HL := h.len
  have HF := hid hf
  have hn : n ≤ 60 := by have := Ch.good_len hf; have := HL.out; omega
  have hg := Ch.good_at HL hf
  have bA : ∀ (W : World) o, Below W.heap.size W (W.alloc o) := fun W o => (Below.refl _ _).alloc (Nat.le_refl _) _
  clear hf
  by_cases hn0 : n = 0
  · subst hn0
    have HP : Hid (Ch.put ls ⟨rk, rv, rg⟩ = [[⟨rk, rv, rg⟩]]) := Ch.put_nil HL.out.symm
    go_enter Tryz.func57, Tryz.ntmps57
    go_wp2
    go_ret
    refine ⟨_, 1, _, rfl, ?_, ?_⟩
    · rw [HP.out]
      have := one_put (w.alloc (.cells #[.int .i64 rk, .int .i64 rv, .bool rg] 53)) w.heap.size rk rv rg (by simp)
      simpa using this
    · exact Below.alloc (Below.alloc (Below.alloc (Below.refl _ _) (Nat.le_refl _) _) (by simp) _) (by simp; omega) _
  · obtain ⟨p, hp⟩ : ∃ p, p = Ch.forAt ls rk n := ⟨_, rfl⟩
    have hpn : p < n := by rw [hp]; exact Ch.forAt_lt (by omega)
    have HP : Hid (Ch.putAcc ls ⟨rk, rv, rg⟩ p n = Ch.put ls ⟨rk, rv, rg⟩) := by
      show _ = _
      have e := HL.out
      subst e
      exact Ch.putAcc_all (by omega) hp.symm
    have hw0 : Below w.heap.size w (w.alloc (.cells #[.int .i64 rk, .int .i64 rv, .bool rg] 53)) := bA _ _
    go_enter Tryz.func57, Tryz.ntmps57
    go_wp2_with fail
    refine (specFor_any a n cap rk ls _ (h.below hw0) hs hg).mono ?_
    rintro e w1 ⟨rfl, rfl⟩
    rw [← hp]
    clear hp
    go_wp2
    obtain ⟨B, HBe⟩ : ∃ B, Hid (B = w.heap.size + 1) := ⟨_, rfl⟩
    go_loopw [6, 7] (fun q i wr => ∃ (k m : Nat) (a' : Option Addr) (c' : Nat) (vs : List Value), k ≤ n ∧ m ≤ 2 * k ∧ i = .int .i64 k ∧ q = .slice a' m c' ∧ RefLv wr B (.slice a' m c') m vs (Ch.putAcc ls ⟨rk, rv, rg⟩ p k) ∧ Below B (w.alloc (.cells #[.int .i64 rk, .int .i64 rv, .bool rg] 53)) wr) (fun _ i _ => n - (intOf i).toNat)
    case atStart =>
      have e := HBe.out
      subst e
      refine ⟨0, 0, _, _, [], Nat.zero_le _, by omega, rfl, rfl, ⟨rfl, ?_, fun i hi => absurd hi (by omega)⟩, ?_⟩
      · have := empty_leaves (w.alloc (.cells #[.int .i64 rk, .int .i64 rv, .bool rg] 53)) (w.heap.size + 1) (by simp)
        simpa using this
      · exact (Below.refl _ _).alloc (by simp) _
    case round =>
      obtain ⟨k, m, a', c', vs, hk, hmk, rfl, rfl, own, hB⟩ := hrel
      have hBs : B ≤ wr.heap.size := by have := hB.size; have := HBe.out; simp at *; omega
      have hBo : Below (w.alloc (.cells #[.int .i64 rk, .int .i64 rv, .bool rg] 53)).heap.size (w.alloc (.cells #[.int .i64 rk, .int .i64 rv, .bool rg] 53)) wr := by
        have := HBe.out; subst this; simpa using hB
      have r0 := box_cell hBo 0
      have r1 := box_cell hBo 1
      have r2 := box_cell hBo 2
      simp at r0 r1 r2
      have hbw := below_box hBo
      clear hBo
      have hoV := own.2.1
      have hsum1 : m + 1 ≤ 2097152 := by omega
      have hsum2 : m + 2 ≤ 2097152 := by omega
      have hqb : ∀ g, (Value.slice a' m c').ownBlock = some g → B ≤ g := fun g hg' => (owns_lt hoV g hg').1
      by_cases hlt : k < n
      · have hkl : k < ls.length := by have := HL.out; omega
        have HS := hid (Ch.lv_leaf hs k)
        obtain ⟨b, off, ai, ni, ci, rfl, hc, hr, hni⟩ := h.leaf hlt
        have HRl := hr.rlen
        have hni' : ni ≤ 1048576 := by have := HS.out; have := HRl.out; omega
        have hcr := keep_cell hbw hc
        have hbl := lt_of_cell hcr
        have hl0 := hg k hlt
        have hni0 : 0 < ni := by have := HRl.out; omega
        have HNo := hid (fun (e : k ≠ p) => Ch.putAcc_no ls ⟨rk, rv, rg⟩ e)
        have HYe := hid (fun (e : k = p) => by subst e; exact Ch.putAcc_yes ls ⟨rk, rv, rg⟩ k : k = p → Ch.putAcc ls ⟨rk, rv, rg⟩ p (k + 1) = Ch.putAcc ls ⟨rk, rv, rg⟩ p k ++ Ch.halves (Ch.into ⟨rk, rv, rg⟩ (ls.getD k [])))
        generalize ls.getD k [] = l at *
        generalize hDL : Ch.putAcc ls ⟨rk, rv, rg⟩ p k = DL at *
        clear hDL HS hl0
        obtain ⟨bi, oi, rfl, hci⟩ := hr.2 (by omega)
        have hbi : bi < w.heap.size := by
          have h0 := hci 0 (by omega)
          have hx : (rcells l)[0]? = some ((rcells l)[0]'(by rw [hr.1]; omega)) := by simp
          rw [hx] at h0
          exact lt_of_cell h0
        have hrr := hr.below hbw
        have rf : RefR wr (.slice a' m c') (some ⟨bi, oi, none⟩) ni l := ⟨hrr, hni, fun b off e => by
          cases e
          exact ⟨by have := hbw.size; omega, fun e2 => by have := hqb _ e2; have := HBe.out; omega⟩⟩
        clear hci
        by_cases hkp : k = p
        · have HY := hid (HYe.out hkp)
          have hne : ((k : Int) != (p : Int)) = false := by simp; omega
          clear HNo HYe hkp
          go_upto_region 10 with fail
          refine wp_region_noPanic ?_
          refine wp_region_held_drew (S := fun W' => W'.cell? ⟨b, off + k, none⟩ = some (.slice (some ⟨bi, oi, none⟩) ni ci) ∧ W'.cell? ⟨w.heap.size, 0, none⟩ = some (.int .i64 rk) ∧ W'.cell? ⟨w.heap.size, 1, none⟩ = some (.int .i64 rv) ∧ W'.cell? ⟨w.heap.size, 2, none⟩ = some (.bool rg)) (by kernel_rfl) (⟨hcr, r0, r1, r2⟩) (fun hH => ?_)
          refine hTake (i := 0) (v := ?_) rfl (by kernel_rfl) (by kernel_rfl) (by kernel_rfl) (by rfl) ?_ hH ?_
          rotate_left
          · intro W hW; (try dsimp only at hW); go_simp <;> with_reducible rfl
          simp only [Act.put, List.setIfInBounds_toArray, List.set_cons_zero, List.set_cons_succ]
          refine hTake (i := 1) (v := ?_) rfl (by kernel_rfl) (by kernel_rfl) (by kernel_rfl) (by rfl) ?_ hH ?_
          rotate_left
          · intro W hW; (try dsimp only at hW); go_simp <;> with_reducible rfl
          simp only [Act.put, List.setIfInBounds_toArray, List.set_cons_zero, List.set_cons_succ]
          refine hTake (i := 2) (v := ?_) rfl (by kernel_rfl) (by kernel_rfl) (by kernel_rfl) (by rfl) ?_ hH ?_
          rotate_left
          · intro W hW; (try dsimp only at hW); go_simp <;> with_reducible rfl
          simp only [Act.put, List.setIfInBounds_toArray, List.set_cons_zero, List.set_cons_succ]
          refine hTake (i := 3) (v := ?_) rfl (by kernel_rfl) (by kernel_rfl) (by kernel_rfl) (by rfl) ?_ hH ?_
          rotate_left
          · intro W hW; (try dsimp only at hW); go_simp <;> with_reducible rfl
          simp only [Act.put, List.setIfInBounds_toArray, List.set_cons_zero, List.set_cons_succ]
          refine hTake (i := 4) (v := ?_) rfl (by kernel_rfl) (by kernel_rfl) (by kernel_rfl) (by rfl) ?_ hH ?_
          rotate_left
          · intro W hW; (try dsimp only at hW); go_simp <;> with_reducible rfl
          simp only [Act.put, List.setIfInBounds_toArray, List.set_cons_zero, List.set_cons_succ]
          refine hTake (i := 5) (v := ?_) rfl (by kernel_rfl) (by kernel_rfl) (by kernel_rfl) (by rfl) ?_ hH ?_
          rotate_left
          · intro W hW; (try dsimp only at hW); go_simp <;> with_reducible rfl
          simp only [Act.put, List.setIfInBounds_toArray, List.set_cons_zero, List.set_cons_succ]
          refine wpAnyH_ready (rs := [6]) (by kernel_rfl) (by simp) ?_
          refine AllReadyH.cons rfl (fun K hK => ?_) AllReadyH.nil
          go_simp
          refine (specInto_any (some ⟨bi, oi, none⟩) ni ci l rk rv rg wr.drew hrr (by omega)).mono ?_
          rintro e w4 ⟨a4, m4, c4, rfl, own4, b4⟩
          go_wp2_with fail
          refine hK.out _ _ ?_ (fun hH => ?_)
          · exact ⟨keep_cell b4 hH.1, keep_cell b4 hH.2.1, keep_cell b4 hH.2.2.1, keep_cell b4 hH.2.2.2⟩
          clear hK K
          refine hTake (i := 7) (v := ?_) rfl (by kernel_rfl) (by kernel_rfl) (by kernel_rfl) (by rfl) ?_ hH ?_
          rotate_left
          · intro W hW; (try dsimp only at hW); go_simp <;> with_reducible rfl
          simp only [Act.put, List.setIfInBounds_toArray, List.set_cons_zero, List.set_cons_succ]
          refine wpAnyH_done (by kernel_rfl) ?_ _
          refine NoPanic.normal ?_
          clear hH
          have b4' : Below wr.heap.size wr w4 := ⟨b4.os, b4.tape, b4.output, b4.size, b4.block⟩
          have hB4 := hB.trans (b4'.mono hBs)
          have hBs4 : B ≤ w4.heap.size := by have := b4'.size; omega
          have hoV4 := owns_below hoV b4'
          have HM : Hid (m4 = (Ch.into ⟨rk, rv, rg⟩ l).length) := by show _ = _; have := own4.1; rw [rcells_len] at this; omega
          have hm1 : 1 ≤ m4 := by have := HM.out; have := Ch.into_pos ⟨rk, rv, rg⟩ l; omega
          have hm4 : m4 ≤ 1048577 := by have := HM.out; have := Ch.into_len ⟨rk, rv, rg⟩ l; have := HRl.out; omega
          generalize Ch.into ⟨rk, rv, rg⟩ l = il at *
          obtain ⟨g4, rfl⟩ : ∃ g4, a4 = some ⟨g4, 0, none⟩ := by
            rcases own4.2 with ⟨_, h0⟩ | ⟨g', cp, cur, hv, _⟩
            · omega
            · simp only [Value.slice.injEq] at hv
              exact ⟨g', hv.1⟩
          have L4 := owns_bounds own4
          have hc4 := owns_capN own4
          have hcl := owns_cells own4
          have hno : (Value.slice a' m c').ownBlock ≠ some g4 := fun e => by
            have h1 := (owns_lt hoV g4 e).2
            have h2 : wr.heap.size ≤ g4 := L4.1
            omega
          have hlt4 : g4 < w4.heap.size := L4.2
          clear own4 b4 rf hrr hr hc hcr hbl hoV
          by_cases h4 : m4 ≤ 4
          · have HH : Hid (Ch.putAcc ls ⟨rk, rv, rg⟩ p (k + 1) = DL ++ [il]) := by show _ = _; rw [HY.out, Ch.halves, if_pos (by have := HM.out; omega)]
            clear HY
            go_wp2_with (at_builtin; go_must (refine wpList_appLv (.tmp 48) (.tmp 51) B (.slice a' m c') m vs 1 [.slice (some ⟨g4, 0, none⟩) m4 c4] hsum1 (by simp [Value.oneCell']) ?_ ?_ ?_ ?_ ?_ ?_ ?_ (by omega); exact rfl; exact rfl; exact rfl; exact ⟨_, _, rfl, one_leaf rfl⟩; exact owns_below hoV4 (bA _ _); (focus (simp; omega)); intro a3 c3 w3 own3 gr3 at3))
            go_roundw
            case rel =>
              refine ⟨k + 1, m + 1, a3, c3, vs ++ [.slice (some ⟨g4, 0, none⟩) m4 c4], by omega, by omega, by go_num, rfl, ?_, ?_⟩
              · rw [HH.out]
                exact own.app (b4'.alloc b4'.size _) rfl rfl (fun i hi => by
                  obtain rfl : i = 0 := by simpa using hi
                  exact ⟨w4, _, _, _, rfl, bA _ _, hcl, by omega, fun b off e => by cases e; exact ⟨hlt4, hno⟩⟩) own3 gr3 at3
              · exact (hB4.alloc hBs4 _).grown gr3 (by simp; omega) (fun j hj => hqb j hj)
            case measure => simp [intOf]; omega
          · have HH : Hid (Ch.putAcc ls ⟨rk, rv, rg⟩ p (k + 1) = DL ++ [il.take (m4 / 2), il.drop (m4 / 2)]) := by show _ = _; rw [HY.out, Ch.halves, if_neg (by have := HM.out; omega), HM.out]
            have hcL := hcl.cutL (k := m4 / 2) (by omega)
            have hcR := hcl.cutR (k := m4 / 2) (by omega)
            obtain ⟨hf, hhf⟩ : ∃ hf, hf = m4 / 2 := ⟨_, rfl⟩
            have hq : (m4 : Int).tdiv 2 = (hf : Int) := by rw [Int.tdiv_eq_ediv_of_nonneg (by omega)]; omega
            rw [← hhf] at HH hcL hcR
            have hh1 : hf ≤ m4 := by omega
            have hh2 : hf ≤ c4 := by omega
            have hh3 : ¬ c4 = hf := by omega
            have h4' : ¬ (m4 : Int) ≤ 4 := by omega
            clear HY hhf h4 hcl
            rw [Nat.zero_add] at hcR
            go_upto_region 14 with fail
            refine wp_region_noPanic ?_
            refine wp_region_held_drew (S := fun _ => True) (by kernel_rfl) trivial (fun hH => ?_)
            refine hTake (i := 0) (v := ?_) rfl (by kernel_rfl) (by kernel_rfl) (by kernel_rfl) (by rfl) ?_ hH ?_
            rotate_left
            · intro W hW; (try dsimp only at hW); go_simp <;> with_reducible rfl
            simp only [Act.put, List.setIfInBounds_toArray, List.set_cons_zero, List.set_cons_succ]
            refine hTake (i := 1) (v := ?_) rfl (by kernel_rfl) (by kernel_rfl) (by kernel_rfl) (by rfl) ?_ hH ?_
            rotate_left
            · intro W hW; (try dsimp only at hW); go_simp <;> with_reducible rfl
            simp only [Act.put, List.setIfInBounds_toArray, List.set_cons_zero, List.set_cons_succ]
            refine hTake (i := 2) (v := ?_) rfl (by kernel_rfl) (by kernel_rfl) (by kernel_rfl) (by rfl) ?_ hH ?_
            rotate_left
            · intro W hW; (try dsimp only at hW); go_simp <;> with_reducible rfl
            simp only [Act.put, List.setIfInBounds_toArray, List.set_cons_zero, List.set_cons_succ]
            refine hTake (i := 3) (v := ?_) rfl (by kernel_rfl) (by kernel_rfl) (by kernel_rfl) (by rfl) ?_ hH ?_
            rotate_left
            · intro W hW; (try dsimp only at hW); go_simp <;> with_reducible rfl
            simp only [Act.put, List.setIfInBounds_toArray, List.set_cons_zero, List.set_cons_succ]
            refine hTake (i := 4) (v := ?_) rfl (by kernel_rfl) (by kernel_rfl) (by kernel_rfl) (by rfl) ?_ hH ?_
            rotate_left
            · intro W hW; (try dsimp only at hW); go_simp <;> with_reducible rfl
            simp only [Act.put, List.setIfInBounds_toArray, List.set_cons_zero, List.set_cons_succ]
            refine hTake (i := 5) (v := ?_) rfl (by kernel_rfl) (by kernel_rfl) (by kernel_rfl) (by rfl) ?_ hH ?_
            rotate_left
            · intro W hW; (try dsimp only at hW); go_simp <;> with_reducible rfl
            simp only [Act.put, List.setIfInBounds_toArray, List.set_cons_zero, List.set_cons_succ]
            refine hTake (i := 6) (v := ?_) rfl (by kernel_rfl) (by kernel_rfl) (by kernel_rfl) (by rfl) ?_ hH ?_
            rotate_left
            · intro W hW; (try dsimp only at hW); go_simp <;> with_reducible rfl
            simp only [Act.put, List.setIfInBounds_toArray, List.set_cons_zero, List.set_cons_succ]
            refine hTake (i := 7) (v := ?_) rfl (by kernel_rfl) (by kernel_rfl) (by kernel_rfl) (by rfl) ?_ hH ?_
            rotate_left
            · intro W hW; (try dsimp only at hW); go_simp <;> with_reducible rfl
            simp only [Act.put, List.setIfInBounds_toArray, List.set_cons_zero, List.set_cons_succ]
            refine hTake (i := 8) (v := ?_) rfl (by kernel_rfl) (by kernel_rfl) (by kernel_rfl) (by rfl) ?_ hH ?_
            rotate_left
            · intro W hW; (try dsimp only at hW); go_simp <;> with_reducible rfl
            simp only [Act.put, List.setIfInBounds_toArray, List.set_cons_zero, List.set_cons_succ]
            refine wpAnyH_ready (rs := [9]) (by kernel_rfl) (by simp) ?_
            refine AllReadyH.cons rfl (fun K hK => ?_) AllReadyH.nil
            go_simp
            refine hK.out _ _ trivial (fun hH => ?_)
            clear hK K
            refine wpAnyH_ready (rs := [10]) (by kernel_rfl) (by simp) ?_
            refine AllReadyH.cons rfl (fun K hK => ?_) AllReadyH.nil
            refine step_appLv (.tmp 56) (.tmp 65) B (.slice a' m c') m vs 2 [.slice (some ⟨g4, 0, none⟩) hf c4, .slice (some ⟨g4, hf * 3, none⟩) (m4 - hf) (c4 - hf)] hsum2 (by simp [Value.oneCell']) ?_ ?_ ?_ ?_ ?_ ?_ ?_ (by omega)
            · exact rfl
            · exact rfl
            · exact rfl
            · exact ⟨_, _, rfl, two_leaves rfl⟩
            · exact owns_below hoV4 ((Below.refl _ _).drew.alloc (Nat.le_refl _) _)
            · simp; omega
            intro a3 c3 w3 own3 gr3 at3
            refine hK.out _ _ trivial (fun hH => ?_)
            clear hK K
            refine hTake (i := 11) (v := ?_) rfl (by kernel_rfl) (by kernel_rfl) (by kernel_rfl) (by rfl) ?_ hH ?_
            rotate_left
            · intro W hW; (try dsimp only at hW); go_simp <;> with_reducible rfl
            simp only [Act.put, List.setIfInBounds_toArray, List.set_cons_zero, List.set_cons_succ]
            refine wpAnyH_done (by kernel_rfl) ?_ _
            refine NoPanic.normal ?_
            clear hH
            have bD : ∀ o, Below w4.heap.size w4 (w4.drew.alloc o) := fun o => (Below.refl _ _).drew.alloc (Nat.le_refl _) _
            go_wp2
            go_roundw
            case rel =>
              refine ⟨k + 1, m + 2, a3, c3, vs ++ [.slice (some ⟨g4, 0, none⟩) hf c4, .slice (some ⟨g4, hf * 3, none⟩) (m4 - hf) (c4 - hf)], by omega, by omega, by go_num, rfl, ?_, ?_⟩
              · rw [HH.out]
                exact own.app (b4'.drew.alloc b4'.size _) rfl rfl (fun i hi => by
                  rcases (show i = 0 ∨ i = 1 by simp at hi; omega) with rfl | rfl
                  · exact ⟨w4, _, _, _, rfl, bD _, hcL, by omega, fun b off e => by cases e; exact ⟨hlt4, hno⟩⟩
                  · exact ⟨w4, _, _, _, rfl, bD _, hcR, by omega, fun b off e => by cases e; exact ⟨hlt4, hno⟩⟩) own3 gr3 at3
              · exact (hB4.drew.alloc hBs4 _).grown gr3 (by simp; omega) (fun j hj => hqb j hj)
            case measure => simp [intOf]; omega
        · have HN := hid (HNo.out hkp)
          have hne : ((k : Int) != (p : Int)) = true := by simp; omega
          clear HNo HYe hkp
          go_wp2_with (at_builtin; go_must (refine wpList_appLv (.tmp 31) (.tmp 36) B (.slice a' m c') m vs 1 [.slice (some ⟨bi, oi, none⟩) ni ci] hsum1 (by simp [Value.oneCell']) ?_ ?_ ?_ ?_ ?_ ?_ ?_ (by omega); exact rfl; exact rfl; exact rfl; exact ⟨_, _, rfl, one_leaf rfl⟩; exact owns_below hoV (bA _ _); (focus (simp; omega)); intro a3 c3 w3 own3 gr3 at3))
          go_roundw
          case rel =>
            refine ⟨k + 1, m + 1, a3, c3, vs ++ [.slice (some ⟨bi, oi, none⟩) ni ci], by omega, by omega, by go_num, rfl, ?_, ?_⟩
            · rw [HN.out]
              exact own.app (bA _ _) rfl rfl (fun i hi => by
                obtain rfl : i = 0 := by simpa using hi
                exact ⟨wr, _, _, _, rfl, bA _ _, rf⟩) own3 gr3 at3
            · exact (hB.alloc hBs _).grown gr3 (by simp; omega) (fun j hj => hqb j hj)
          case measure => simp [intOf]; omega
      · obtain rfl : k = n := by omega
        have hat := own.at
        rw [HP.out] at hat own
        have hml := own.1
        go_wp2_with fail
        refine (specCopy_any a' m c' (Ch.put ls ⟨rk, rv, rg⟩) wr hat (Ch.put_size HF.out) (fun i hi => Ch.put_full HF.out i (by omega))).mono ?_
        rintro e w5 ⟨a5, c5, rfl, own5, b5⟩
        go_wp2
        go_ret
        exact ⟨a5, m, c5, rfl, own5.base hbw.size, hbw.trans (b5.mono hbw.size)⟩
end Go.Proofs.YthfanfnbjldddaaGreat


/- The draw of right leaves. -/
namespace Go.Proofs.YthfanfnbjldddaaGreat
open Go.RowKit

theorem OwnLv.grown {w w' : World} {B s n : Nat} {v : Value} {ls : List (List Ch.Row)} (h : OwnLv w B v n ls) (hg : w.grownBy w' (some s)) (hs : s < B) : OwnLv w' B v n ls := by
  obtain ⟨hl, vs, ho, hi, hd, hd'⟩ := h
  refine ⟨hl, vs, owns_grown ho hg (fun g hg' e => by have := (owns_lt ho g hg').1; simp at e; omega), fun i hlt => ?_, hd, hd'⟩
  obtain ⟨x, h1, h2⟩ := hi i hlt
  exact ⟨x, h1, owns_grown h2 hg (fun g hg' e => by have := (owns_lt h2 g hg').1; simp at e; omega)⟩
theorem Ch.good_sizeD {ls : List (List Ch.Row)} (h : Ch.leavesFault ls = 0) : Ch.lvSize ls ≤ 1048576 := by
  have hg := (Ch.good_iff ls).1 h
  have := Ch.sum_le ls 4 (fun x hx => (hg.2.1 x hx).2)
  unfold Ch.lvSize
  omega
theorem Ch.put_len1 (ls : List (List Ch.Row)) (r : Ch.Row) : (Ch.put ls r).length ≤ ls.length + 1 := by
  unfold Ch.put
  split
  · simp
  · have hp := Ch.forAt_lt (ls := ls) (key := r.k) (k := ls.length) (by omega)
    have := Ch.halves_len (Ch.into r (ls.getD (Ch.forAt ls r.k ls.length) []))
    simp only [List.length_append, List.length_take, List.length_drop]
    omega
theorem Ch.drop_len (ls : List (List Ch.Row)) (key : Int) : (Ch.drop ls key).length ≤ ls.length := by
  have h1 := List.length_filter_le Ch.full (ls.map (List.filter (Ch.notK key)))
  rw [List.length_map] at h1
  exact h1

/-- Some right leaves were drawn. -/
def LvPost (q d s : Nat) (a : Option Addr) (n cap k : Nat) (zs : List Int) (w : World) (e : Ending) (w' : World) : Prop :=
  ∃ ls a' m c' k', Ch.leavesFault ls = 0 ∧ ls.length ≤ q ∧ e = .returned (.slice a' m c') ∧ OwnLv w' w.heap.size (.slice a' m c') m ls ∧ k' ≤ k + d ∧ Src w' s a n cap k' zs ∧ w.grownBy w' (some s)

set_option maxHeartbeats 4000000 in
theorem l3Right_any (s : Nat) (a : Option Addr) (n cap k : Nat) (zs : List Int) (w : World) (h : Src w s a n cap k zs) (hb : IsB zs) (hn : n ≤ 1048580) (hk : k ≤ 700) :
    Calls Tryz.prog 60 #[.pointer (some ⟨s, 0, none⟩)] w (LvPost 20 120 s a n cap k zs w) := by
  have hsl := h.lt
  have o0 := empty_leaves w w.heap.size (Nat.le_refl _)
  have O0 : OwnLv (w.alloc (.cells #[] 80)) w.heap.size (.slice (some ⟨w.heap.size, 0, none⟩) 0 0) 0 [] := ⟨rfl, [], o0, fun i hi => absurd hi (by omega), fun i j x y g _ hx => by simp at hx, fun i x g hx => by simp at hx⟩
  clear o0
  go_enter Tryz.func60, Tryz.ntmps60
  go_wp2_with fail
  refine (next_any 20 s a n cap k zs _ h.new hb hn (by omega) (by omega) (by omega)).mono ?_
  rintro e w1 ⟨⟨x, x0, x1, rfl⟩, s1, g1⟩
  have O1 := O0.grown g1 hsl
  have G1 := gr_alloc g1
  obtain ⟨j0, rfl⟩ : ∃ j0 : Nat, x = (j0 : Int) := ⟨x.toNat, by omega⟩
  clear O0 g1
  go_wp2
  go_loopw [3, 4] (fun q i wr => ∃ (j m : Nat) (a' : Option Addr) (c' k' : Nat) (ls : List (List Ch.Row)), j ≤ 19 ∧ i = .int .i64 j ∧ q = .slice a' m c' ∧ OwnLv wr w.heap.size (.slice a' m c') m ls ∧ Hid (Ch.leavesFault ls = 0) ∧ ls.length + j ≤ 20 ∧ k' + 5 * j ≤ k + 100 ∧ Src wr s a n cap k' zs ∧ w.grownBy wr (some s)) (fun _ i _ => (intOf i).toNat)
  case atStart => exact ⟨j0, 0, _, _, k + 1, [], by omega, rfl, rfl, O1, (by decide : Ch.leavesFault [] = 0), by simp; omega, by omega, s1, G1⟩
  case round =>
    clear O1 s1 G1
    obtain ⟨j, m, a', c', k', ls, hj, rfl, rfl, own, HG, hlen, hkk, sr, G⟩ := hrel
    have hzw := G.size
    by_cases hlt : 0 < j
    · have hji : (j : Int) > 0 := by omega
      go_wp2_with fail
      refine (l1Row_any s a n cap k' zs _ sr hb hn (by omega)).mono ?_
      rintro e w2 ⟨⟨rk, rv, rg⟩, k2, hrf, _, _, rfl, hk2, s2, g2⟩
      have own2 := own.grown g2 hsl
      have G2 := gr_trans G g2
      have hz2 := G2.size
      have HP := hid (Ch.put_good HG.out hrf (by have := Ch.put_len1 ls ⟨rk, rv, rg⟩; omega))
      have HPl := hid (Ch.put_len1 ls ⟨rk, rv, rg⟩)
      clear own sr g2 hrf
      go_wp2_with fail
      refine (specPut_any a' m c' ls rk rv rg _ (own2.at (small_at (Ch.good_sizeD HG.out))) (Ch.good_sizeD HG.out) HG.out).mono ?_
      rintro e w3 ⟨a3, m3, c3, rfl, own3, b3⟩
      have own3 := own3.base (B' := w.heap.size) (by omega)
      have s3 := s2.below (B := w2.heap.size) b3 s2.lt
      have G3 := gr_on G2 (b3.mono hz2)
      have hz3 := G3.size
      generalize Ch.put ls ⟨rk, rv, rg⟩ = ls3 at *
      clear own2 s2 b3 G2 HG
      go_wp2_with fail
      refine (chance_any 5 s a n cap k2 zs _ s3 hb hn (by omega) (by omega) (by omega)).mono ?_
      rintro e w4 ⟨⟨c, rfl⟩, s4, g4⟩
      have own4 := own3.grown g4 hsl
      have G4 := gr_trans G3 g4
      have hz4 := G4.size
      clear own3 s3 g4 G3
      have HPl' := HPl.out
      cases c with
      | false =>
        go_wp2
        go_roundw
        case rel => exact ⟨j - 1, m3, a3, c3, k2 + 1, ls3, by omega, by first | go_num | (simp; omega), rfl, own4, HP, by omega, by omega, s4, G4⟩
        case measure => simp [intOf]; omega
      | true =>
        go_wp2_with fail
        refine (next_any 20 s a n cap (k2 + 1) zs _ s4 hb hn (by omega) (by omega) (by omega)).mono ?_
        rintro e w5 ⟨⟨y, y0, y1, rfl⟩, s5, g5⟩
        have own5 := own4.grown g5 hsl
        have G5 := gr_trans G4 g5
        have hz5 := G5.size
        have HD := hid (Ch.drop_good HP.out y)
        have HDl := Ch.drop_len ls3 y
        clear own4 s4 g5
        go_wp2_with fail
        refine (specDrop_any a3 m3 c3 y ls3 _ (own5.at (small_at (Ch.good_sizeD HP.out))) (Ch.good_sizeD HP.out)).mono ?_
        rintro e w6 ⟨a6, m6, c6, rfl, own6, b6⟩
        have own6 := own6.base (B' := w.heap.size) (by omega)
        have s6 := s5.below (B := w5.heap.size) b6 s5.lt
        have G6 := gr_on G5 (b6.mono hz5)
        generalize Ch.drop ls3 y = ls6 at *
        go_wp2
        go_roundw
        case rel => exact ⟨j - 1, m6, a6, c6, k2 + 1 + 1, ls6, by omega, by first | go_num | (simp; omega), rfl, own6, HD, by omega, by omega, s6, G6⟩
        case measure => simp [intOf]; omega
    · obtain rfl : j = 0 := by omega
      go_wp2
      go_ret
      exact ⟨ls, a', m, c', k', HG.out, by omega, rfl, own, by omega, sr, G⟩
end Go.Proofs.YthfanfnbjldddaaGreat


/- The draws of rows and of a page: any few rows. -/
namespace Go.Proofs.YthfanfnbjldddaaGreat
open Go.RowKit

theorem rows_some {w : World} {B m cp : Nat} {a : Option Addr} {xs : List Value} (h : w.ownsRow B 53 3 (.slice a (m + 1) cp) (m + 1) xs) : ∃ g, a = some ⟨g, 0, none⟩ := by
  rcases h.2 with ⟨_, h0⟩ | ⟨g', cp', cur, hv, _⟩
  · omega
  · simp only [Value.slice.injEq] at hv
    exact ⟨g', hv.1⟩

set_option maxHeartbeats 2000000 in
theorem rows_any (m : Nat) (s : Nat) (a : Option Addr) (n cap k : Nat) (zs : List Int) (w : World) (h : Src w s a n cap k zs) (hb : IsB zs) (hn : n ≤ 1048580) (hk : k ≤ 500) (hm : m ≤ 5) :
    Calls Tryz.prog 88 #[.pointer (some ⟨s, 0, none⟩), .int .i64 m] w fun e w' => (∃ g cp, e = .returned (.slice (some ⟨g, 0, none⟩) m cp) ∧ ∃ rs, w'.ownsRow w.heap.size 53 3 (.slice (some ⟨g, 0, none⟩) m cp) m (rcells rs)) ∧ (∃ k', k' ≤ k + 21 ∧ Src w' s a n cap k' zs) ∧ w.grownBy w' (some s) := by
  have hlt := h.lt
  go_enter Tryz.func88, Tryz.ntmps88
  go_wp2_with fail
  refine (next_any 5 s a n cap k zs _ h.new hb hn (by omega) (by omega) (by omega)).mono ?_
  rintro e w1 ⟨⟨x, x0, x1, rfl⟩, s1, g1⟩
  have own0 : (w.alloc (.cells #[] 53)).ownsRow w.heap.size 53 3 (.slice (some ⟨w.heap.size, 0, none⟩) 0 0) 0 (rcells []) := World.ownsRow_lit w #[] 0 (Nat.le_refl _) (by unfold maxLen; omega) rfl
  have own1 := owns_grown own0 g1 (fun g hg => by simp [Value.ownBlock] at hg; simp; omega)
  have g1' := gr_alloc g1
  clear g1 own0
  go_wp2_with fail
  go_loopw [1, 5, 6] (fun mv v t wr => ∃ (j r g cp : Nat) (x : Int) (rs : List Ch.Row), j + r = m ∧ mv = .int .i64 r ∧ v = .slice (some ⟨g, 0, none⟩) j cp ∧ t = .int .i64 x ∧ 0 ≤ x ∧ x ≤ 4 + 5 * j ∧
    wr.ownsRow w.heap.size 53 3 (.slice (some ⟨g, 0, none⟩) j cp) j (rcells rs) ∧ Src wr s a n cap (k + 1 + 4 * j) zs ∧ w.grownBy wr (some s)) (fun mv _ _ _ => (intOf mv).toNat)
  case atStart => exact ⟨0, m, _, _, x, [], by omega, rfl, rfl, rfl, x0, by omega, own1, s1, g1'⟩
  case round =>
    obtain ⟨j, r, g, cp, x, rs, hjr, rfl, rfl, rfl, x0, x1, own, sr, gr⟩ := hrel
    by_cases hr : 0 < r
    · have gB := owns_bounds own
      have hi : (0 : Int) < (r : Int) := by omega
      go_wp2_with fail
      refine (l1Row_any s a n cap _ zs _ sr hb hn (by omega)).mono ?_
      rintro e w2 ⟨⟨rk, rv, rg⟩, k2, _, _, _, rfl, rfl, s2, g2⟩
      have own2 := owns_grown own g2 (fun g' hg => by simp [Value.ownBlock] at hg; simp; omega)
      have gr2 := gr_trans gr g2
      have z2 := g2.size
      have z0 := gr.size
      simp only
      go_wp2_with fail
      refine (next_any 5 s a n cap _ zs _ s2.new hb hn (by omega) (by omega) (by omega)).mono ?_
      rintro e w3 ⟨⟨y, y0, y1, rfl⟩, s3, g3⟩
      have own3 := owns_grown (own2.alloc _) g3 (fun g' hg => by simp [Value.ownBlock] at hg; simp; omega)
      have p := gr_heap g3 (heap_alloc_new w2 _) (by simp; omega)
      have gr3 := gr_trans gr2 (gr_alloc g3)
      have z3 := g3.size
      simp at z3
      have p0 : w3.cell? ⟨w2.heap.size, 0, none⟩ = _ := cell_of_row _ _ _ _ _ _ p
      have p1 : w3.cell? ⟨w2.heap.size, 1, none⟩ = _ := cell_of_row _ _ _ _ _ _ p
      have p2 : w3.cell? ⟨w2.heap.size, 2, none⟩ = _ := cell_of_row _ _ _ _ _ _ p
      simp at p0 p1 p2
      clear p g3 g2 own own2 sr gr
      simp only
      obtain ⟨g0, hg0⟩ : ∃ g0, g0 = w3.heap.size := ⟨_, rfl⟩
      clear hg0
      go_wp2_with (at_builtin; go_must (refine wpList_appRs (.tmp 24) (.tmp 26) w.heap.size (.slice (some ⟨g, 0, none⟩) j cp) j rs 1 [⟨x, rv, rg⟩] (by omega) ?_ ?_ ?_ ?_ ?_ ?_ ?_; exact rfl; exact rfl; exact rfl; exact ⟨_, _, rfl, new_row (r := ⟨x, rv, rg⟩) rfl⟩; exact own3.alloc _; (focus (simp; omega)); intro a4 c4 w4 own4 b4))
      go_roundw
      case rel =>
        obtain ⟨g4, rfl⟩ := rows_some own4
        refine ⟨j + 1, r - 1, g4, c4, x + 1 + y, rs ++ [⟨x, rv, rg⟩], by omega, by go_num, rfl, by go_num, by omega, by omega, own4, ?_, ?_⟩
        · have := s3.new.below b4 (by omega)
          rw [show k + 1 + 4 * (j + 1) = k + 1 + 4 * j + 3 + 1 by omega]
          exact this
        · exact gr_on (gr_new gr3) b4
      case measure => simp [intOf]; omega
    · have hi : ¬ (0 : Int) < (r : Int) := by omega
      obtain rfl : j = m := by omega
      go_wp2
      go_ret
      exact ⟨⟨g, cp, rfl, rs, own⟩, ⟨_, by omega, sr⟩, gr⟩

theorem rows_set0 {w : World} {B g m cp : Nat} {rs : List Ch.Row} (h : w.ownsRow B 53 3 (.slice (some ⟨g, 0, none⟩) m cp) m (rcells rs)) (hm : 0 < m) :
    (∀ x : Int, ∃ rs', (w.setCell ⟨g, 0, none⟩ (.int .i64 x)).ownsRow B 53 3 (.slice (some ⟨g, 0, none⟩) m cp) m (rcells rs')) ∧
    (∀ x : Int, ∃ rs', (w.setCell ⟨g, 1, none⟩ (.int .i64 x)).ownsRow B 53 3 (.slice (some ⟨g, 0, none⟩) m cp) m (rcells rs')) ∧
    (∃ rs', (w.setCell ⟨g, 2, none⟩ (.bool true)).ownsRow B 53 3 (.slice (some ⟨g, 0, none⟩) m cp) m (rcells rs')) ∧
    ∃ r, rs.head? = some r ∧ w.cell? ⟨g, 0, none⟩ = some (.int .i64 r.k) ∧ w.cell? ⟨g, 1, none⟩ = some (.int .i64 r.v) ∧ w.cell? ⟨g, 2, none⟩ = some (.bool r.g) := by
  have hl := (owns_cells h).rlen.out
  cases rs with
  | nil => simp at hl; omega
  | cons r rs =>
    have e : ∀ r' : Ch.Row, rcells (r' :: rs) = [.int .i64 r'.k, .int .i64 r'.v, .bool r'.g] ++ rcells rs := fun r' => by simp [rcells]
    refine ⟨fun x => ⟨⟨x, r.v, r.g⟩ :: rs, ?_⟩, fun x => ⟨⟨r.k, x, r.g⟩ :: rs, ?_⟩, ⟨⟨r.k, r.v, true⟩ :: rs, ?_⟩, r, rfl, ?_⟩
    · have := (h.stored 0 (.int .i64 x)).1
      rw [e] at this ⊢; exact this
    · have := (h.stored 1 (.int .i64 x)).1
      rw [e] at this ⊢; exact this
    · have := (h.stored 2 (.bool true)).1
      rw [e] at this ⊢; exact this
    · obtain ⟨b, off, hb, c0, c1, c2⟩ := (owns_cells h).row (k := 0) hm
      simp only [Option.some.injEq, Addr.mk.injEq, and_true] at hb
      obtain ⟨rfl, rfl⟩ := hb
      exact ⟨c0, c1, c2⟩


set_option maxHeartbeats 4000000 in
theorem page_any (s : Nat) (a : Option Addr) (n cap k : Nat) (zs : List Int) (w : World) (h : Src w s a n cap k zs) (hb : IsB zs) (hn : n ≤ 1048580) (hk : k ≤ 400) :
    Calls Tryz.prog 61 #[.pointer (some ⟨s, 0, none⟩)] w fun e w' => (∃ g m cp, e = .returned (.slice (some ⟨g, 0, none⟩) m cp) ∧ m ≤ 5 ∧ ∃ rs, w'.ownsRow w.heap.size 53 3 (.slice (some ⟨g, 0, none⟩) m cp) m (rcells rs)) ∧ (∃ k', k' ≤ k + 60 ∧ Src w' s a n cap k' zs) ∧ w.grownBy w' (some s) := by
  have hlt := h.lt
  go_enter Tryz.func61, Tryz.ntmps61
  go_wp2_with fail
  refine (next_any 5 s a n cap k zs _ h hb hn (by omega) (by omega) (by omega)).mono ?_
  rintro e w1 ⟨⟨x, x0, x1, rfl⟩, s1, g1⟩
  obtain ⟨m, rfl⟩ := Int.eq_ofNat_of_zero_le x0
  have z1 := g1.size
  go_wp2_with fail
  refine (rows_any m s a n cap _ zs _ s1 hb hn (by omega) (by omega)).mono ?_
  rintro e w2 ⟨⟨g, cp, rfl, rs, own0⟩, ⟨k2, hk2, s2⟩, g2'⟩
  have own := owns_base own0 z1
  have g2 := gr_trans g1 g2'
  have z2 := g2.size
  have hgb := owns_bounds own
  clear own0 g2' g1 s1
  by_cases hm : 0 < m
  · have hi : (0 : Int) < (m : Int) := by omega
    go_wp2_with fail
    refine (next_any 14 s a n cap _ zs _ s2 hb hn (by omega) (by omega) (by omega)).mono ?_
    rintro e w3 ⟨⟨v, v0, v1, rfl⟩, s3, g3'⟩
    have own := owns_grown own g3' (fun g' hg => by simp [Value.ownBlock] at hg; simp; omega)
    have g3 := gr_trans g2 g3'
    have z3 := g3.size
    clear g3' g2 s2
    have hv : v = 0 ∨ v = 1 ∨ v = 2 ∨ v = 3 ∨ 3 < v := by omega
    rcases hv with rfl | rfl | rfl | rfl | hv
    focus
      go_wp2_with fail
      refine (pick_any w3.heap.size 3 [-1, 99, 100] s a n cap _ zs _ s3.new hb hn (by omega) (heap_alloc_new w3 _) (by have := s3.lt; omega) rfl (by omega) (by omega)).mono ?_
      rintro e w4 ⟨⟨y, _, rfl⟩, s4, g4⟩
      have own := owns_grown (own.alloc _) g4 (fun g' hg => by simp [Value.ownBlock] at hg; simp; omega)
      have gr4 := gr_trans g3 (gr_alloc g4)
      obtain ⟨t0, t1, t2, r, hr, c0, c1, c2⟩ := rows_set0 own hm
      have f0 := own.frozenAt 0
      obtain ⟨rs9, own9⟩ := t0 y
      have s9 := s4.set (b := g) (o := 0) (v := .int .i64 y) (by omega)
      have gr9 := gr_set' (o := 0) (v := .int .i64 y) gr4 hgb.1
      have hm9 : m ≤ 5 := by omega
      clear t0 t1 t2 g4 gr4 g3 own s3 s4
      go_wp2_with fail
    rotate_left
    focus
      go_wp2_with fail
      refine (pick_any w3.heap.size 3 [-1, 9999, 10000] s a n cap _ zs _ s3.new hb hn (by omega) (heap_alloc_new w3 _) (by have := s3.lt; omega) rfl (by omega) (by omega)).mono ?_
      rintro e w4 ⟨⟨y, _, rfl⟩, s4, g4⟩
      have own := owns_grown (own.alloc _) g4 (fun g' hg => by simp [Value.ownBlock] at hg; simp; omega)
      have gr4 := gr_trans g3 (gr_alloc g4)
      obtain ⟨t0, t1, t2, r, hr, c0, c1, c2⟩ := rows_set0 own hm
      have f0 := own.frozenAt 1
      obtain ⟨rs9, own9⟩ := t1 y
      have s9 := s4.set (b := g) (o := 1) (v := .int .i64 y) (by omega)
      have gr9 := gr_set' (o := 1) (v := .int .i64 y) gr4 hgb.1
      have hm9 : m ≤ 5 := by omega
      clear t0 t1 t2 g4 gr4 g3 own s3 s4
      go_wp2_with fail
    rotate_left
    focus
      obtain ⟨t0, t1, t2, r, hr, c0, c1, c2⟩ := rows_set0 own hm
      have f0 := own.frozenAt 2
      obtain ⟨rs9, own9⟩ := t2
      have s9 := s3.set (b := g) (o := 2) (v := .bool true) (by omega)
      have gr9 := gr_set' (o := 2) (v := .bool true) g3 hgb.1
      have hm9 : m ≤ 5 := by omega
      clear t0 t1 g3 own s3
      go_wp2_with fail
    rotate_left
    focus
      obtain ⟨_, _, _, r, hr, c0, c1, c2⟩ := rows_set0 own hm
      have hsum : m + 1 ≤ 2097152 := by omega
      go_wp2_with (at_builtin; go_must (refine wpList_appRs (.tmp 36) (.tmp 40) w.heap.size (.slice (some ⟨g, 0, none⟩) m cp) m rs 1 [r] hsum ?_ ?_ ?_ ?_ ?_ ?_ ?_; exact rfl; exact rfl; exact rfl; exact ⟨_, _, rfl, new_row (r := r) rfl⟩; exact own.alloc _; (focus (simp; omega)); intro a4 c4 w4 own9 b4))
      obtain ⟨g4, rfl⟩ := rows_some own9
      have s9 := s3.new.below b4 (by omega)
      have gr9 := gr_on (gr_new g3) b4
      have hm9 : m + 1 ≤ 5 := by omega
      clear own s3 g3 b4
    rotate_left
    focus
      have u0 : (v == 0) = false := by rw [beq_eq_false_iff_ne]; omega
      have u1 : (v == 1) = false := by rw [beq_eq_false_iff_ne]; omega
      have u2 : (v == 2) = false := by rw [beq_eq_false_iff_ne]; omega
      have u3 : (v == 3) = false := by rw [beq_eq_false_iff_ne]; omega
      have own9 := own
      have s9 := s3
      have gr9 := g3
      have hm9 : m ≤ 5 := by omega
      clear own s3 g3
      go_wp2_with fail
    rotate_left
    all_goals
      refine (chance_any 30 s a n cap _ zs _ s9 hb hn (by omega) (by omega) (by omega)).mono ?_
      rintro e w8 ⟨⟨c, rfl⟩, s10, g10⟩
      have own10 := owns_grown own9 g10 (fun g' hg => by have := (owns_lt own9 g' hg).1; simp; omega)
      have gr10 := gr_trans gr9 g10
      clear own9 gr9 g10 s9
      cases c
      · go_wp2
        go_ret
        exact ⟨⟨_, _, _, rfl, hm9, _, own10⟩, ⟨_, by omega, s10⟩, gr10⟩
      · go_wp2_with fail
        refine (rows_any 5 s a n cap _ zs _ s10 hb hn (by omega) (by omega)).mono ?_
        rintro e w11 ⟨⟨g', cp', rfl, rs', own11⟩, ⟨k11, hk11, s11⟩, g11⟩
        go_wp2
        go_ret
        exact ⟨⟨_, _, _, rfl, Nat.le_refl _, _, owns_base own11 gr10.size⟩, ⟨k11, by omega, s11⟩, gr_trans gr10 g11⟩
  · have hi : ¬ (0 : Int) < (m : Int) := by omega
    have own9 := own
    have s9 := s2
    have gr9 := g2
    have hm9 : m ≤ 5 := by omega
    clear own s2 g2
    go_wp2_with fail
    refine (chance_any 30 s a n cap _ zs _ s9 hb hn (by omega) (by omega) (by omega)).mono ?_
    rintro e w8 ⟨⟨c, rfl⟩, s10, g10⟩
    have own10 := owns_grown own9 g10 (fun g' hg => by have := (owns_lt own9 g' hg).1; simp; omega)
    have gr10 := gr_trans gr9 g10
    clear own9 gr9 g10 s9
    cases c
    · go_wp2
      go_ret
      exact ⟨⟨_, _, _, rfl, hm9, _, own10⟩, ⟨_, by omega, s10⟩, gr10⟩
    · go_wp2_with fail
      refine (rows_any 5 s a n cap _ zs _ s10 hb hn (by omega) (by omega)).mono ?_
      rintro e w11 ⟨⟨g', cp', rfl, rs', own11⟩, ⟨k11, hk11, s11⟩, g11⟩
      go_wp2
      go_ret
      exact ⟨⟨_, _, _, rfl, Nat.le_refl _, _, owns_base own11 gr10.size⟩, ⟨k11, by omega, s11⟩, gr_trans gr10 g11⟩

end Go.Proofs.YthfanfnbjldddaaGreat


/- The draw of leaves, bent ones too. -/
namespace Go.Proofs.YthfanfnbjldddaaGreat
open Go.RowKit

theorem OwnLv.putS {w0 w : World} {B o n cap k : Nat} {ls : List (List Ch.Row)} {x : Value} {l : List Ch.Row} (h : OwnLv w0 B (.slice (some ⟨o, 0, none⟩) n cap) n ls) (mv : ∀ (e : TypeId) (size : Nat) (v : Value) (n : Nat) (xs : List Value), w0.ownsRow B e size v n xs → w.ownsRow B e size v n xs)
    (hx : w.ownsRow w0.heap.size 53 3 x l.length (rcells l)) (hk : k < n) (hB : B ≤ w0.heap.size) : OwnLv (w.setCell ⟨o, k, none⟩ x) B (.slice (some ⟨o, 0, none⟩) n cap) n (ls.set k l) := by
  obtain ⟨hl, vs, ho, hi, hd, hd'⟩ := h
  have ho1 := mv _ _ _ _ _ ho
  have hvl : vs.length = n := by have := ho.1; omega
  have hst := ho1.stored k x
  have hob := owns_bounds ho
  have fresh : ∀ g, x.ownBlock = some g → w0.heap.size ≤ g := fun g hg => (owns_lt hx g hg).1
  have old : ∀ (i : Nat) (y : Value) (g : Nat), vs[i]? = some y → y.ownBlock = some g → g < w0.heap.size := by
    intro i y g hy hg
    have hin : i < n := by
      rcases Nat.lt_or_ge i n with h | h
      · exact h
      · rw [List.getElem?_eq_none (by omega)] at hy; cases hy
    obtain ⟨y', h1, h2⟩ := hi i hin
    rw [hy] at h1; cases h1
    exact (owns_lt h2 g hg).2
  refine ⟨by simpa using hl, vs.set k x, hst.1, fun i hlt => ?_, ?_, ?_⟩
  · by_cases hik : k = i
    · subst hik
      refine ⟨x, by simp [hvl, hk], ?_⟩
      have e : (ls.set k l).getD k [] = l := by simp [List.getD, hl, hk]
      rw [e]
      refine owns_base (owns_grown hx hst.2 fun g hg he => ?_) hB
      have := fresh g hg
      simp at he
      omega
    · obtain ⟨y, h1, h2⟩ := hi i hlt
      refine ⟨y, by rw [List.getElem?_set_ne hik]; exact h1, ?_⟩
      have e : (ls.set k l).getD i [] = ls.getD i [] := by simp [List.getD, hik]
      rw [e]
      refine owns_grown (mv _ _ _ _ _ h2) hst.2 fun g hg he => ?_
      simp at he
      subst he
      exact hd' i y _ h1 rfl hg
  · intro i j y z g hij hy hz hyg hzg
    by_cases hik : k = i
    · subst hik
      rw [List.getElem?_set_ne (by omega)] at hz
      rw [List.getElem?_set_self (by omega)] at hy
      cases hy
      have := fresh g hyg
      have := old j z g hz hzg
      omega
    · rw [List.getElem?_set_ne hik] at hy
      by_cases hjk : k = j
      · subst hjk
        rw [List.getElem?_set_self (by omega)] at hz
        cases hz
        have := fresh g hzg
        have := old i y g hy hyg
        omega
      · rw [List.getElem?_set_ne hjk] at hz
        exact hd i j y z g hij hy hz hyg hzg
  · intro i y g hy hg hyg
    by_cases hik : k = i
    · subst hik
      rw [List.getElem?_set_self (by omega)] at hy
      cases hy
      have := fresh g hyg
      simp [Value.ownBlock] at hg
      omega
    · rw [List.getElem?_set_ne hik] at hy
      exact hd' i y g hy hg hyg


theorem OwnLv.snocS {w0 w1 w2 : World} {B n m : Nat} {v v' x : Value} {vs : List Value} {ls : List (List Ch.Row)} {l : List Ch.Row} {o : Obj} (h : OwnV w0 B v n vs ls) (mv : ∀ (e : TypeId) (size : Nat) (v : Value) (n : Nat) (xs : List Value), w0.ownsRow B e size v n xs → w1.ownsRow B e size v n xs) (hsz : w0.heap.size ≤ w1.heap.size)
    (hx : w1.ownsRow w0.heap.size 53 3 x l.length (rcells l)) (hB : B ≤ w0.heap.size) (hm : m = n + 1)
    (h2 : w2.ownsRow B 80 1 v' m (vs ++ [x])) (hg : (w1.alloc o).grownBy w2 v.ownBlock) (hat : ∀ g, v'.ownBlock = some g → v.ownBlock = some g ∨ (w1.alloc o).heap.size ≤ g) : OwnLv w2 B v' m (ls ++ [l]) := by
  subst hm
  have hlt := h.lt
  obtain ⟨hl, ho, hi, hd, hd'⟩ := h
  have hvl : vs.length = n := by have := ho.1; omega
  have ba : Below w1.heap.size w1 (w1.alloc o) := (Below.refl _ _).alloc (Nat.le_refl _) _
  have Lx := owns_lt hx
  have Lv := owns_lt ho
  have hin : ∀ (i : Nat) (y : Value), vs[i]? = some y → i < n := by
    intro i y hy
    rcases Nat.lt_or_ge i n with h | h
    · exact h
    · rw [List.getElem?_eq_none (by omega)] at hy; cases hy
  have split : ∀ (i : Nat) (y : Value), (vs ++ [x])[i]? = some y → (i < n ∧ vs[i]? = some y) ∨ (i = n ∧ y = x) := by
    intro i y hy
    rcases Nat.lt_or_ge i n with h | h
    · rw [List.getElem?_append_left (by omega)] at hy; exact .inl ⟨h, hy⟩
    · rw [List.getElem?_append_right (by omega)] at hy
      by_cases h0 : i - vs.length = 0
      · rw [h0] at hy; simp at hy; exact .inr ⟨by omega, hy.symm⟩
      · rw [List.getElem?_eq_none (by simp; omega)] at hy; cases hy
  refine ⟨by simp [hl], vs ++ [x], h2, fun i hlt' => ?_, ?_, ?_⟩
  · by_cases hin' : i = n
    · subst hin'
      refine ⟨x, by rw [List.getElem?_append_right (by omega)]; simp [hvl], ?_⟩
      have e : (ls ++ [l]).getD i [] = l := by simp [List.getD, hl]
      rw [e]
      refine owns_base (owns_grown (owns_below hx ba) hg fun g hg' he => ?_) hB
      have := Lx g hg'
      have := Lv g he
      omega
    · obtain ⟨y, h1, h3⟩ := hi i (by omega)
      refine ⟨y, by rw [List.getElem?_append_left (by omega)]; exact h1, ?_⟩
      have e : (ls ++ [l]).getD i [] = ls.getD i [] := by simp [List.getD, List.getElem?_append_left (show i < ls.length by omega)]
      rw [e]
      refine owns_grown (owns_below (mv _ _ _ _ _ h3) ba) hg fun g hg' he => ?_
      exact hd' i y g h1 he hg'
  · intro i j y z g hij hy hz hyg hzg
    rcases split i y hy with ⟨hi1, hy'⟩ | ⟨hi1, rfl⟩
    · rcases split j z hz with ⟨hj1, hz'⟩ | ⟨hj1, rfl⟩
      · exact hd i j y z g hij hy' hz' hyg hzg
      · have := hlt i y g hy' hyg
        have := Lx g hzg
        omega
    · rcases split j z hz with ⟨hj1, hz'⟩ | ⟨hj1, rfl⟩ <;> omega
  · intro i y g hy hvg hyg
    have hv' := hat g hvg
    simp only [World.alloc, Array.size_push] at hv'
    rcases split i y hy with ⟨hi1, hy'⟩ | ⟨hi1, rfl⟩
    · rcases hv' with h3 | h3
      · exact hd' i y g hy' h3 hyg
      · have := hlt i y g hy' hyg
        omega
    · have := Lx g hyg
      rcases hv' with h3 | h3
      · have := Lv g h3
        omega
      · omega

theorem moved {w w' : World} {B s : Nat} (hg : w.grownBy w' (some s)) (hs : s < B) : ∀ (e : TypeId) (size : Nat) (v : Value) (n : Nat) (xs : List Value), w.ownsRow B e size v n xs → w'.ownsRow B e size v n xs :=
  fun _ _ _ _ _ h => owns_grown h hg (fun g hg' e => by have := (owns_lt h g hg').1; simp at e; omega)

theorem made_bent (w : World) (B : Nat) (hB : B ≤ w.heap.size) : OwnLv (w.alloc (.cells (Array.replicate 61 (.slice none 0 0)) 80)) B (.slice (some ⟨w.heap.size, 0, none⟩) 61 61) 61 (List.replicate 61 []) := by
  have o := World.ownsRow_lit (base := B) (e := 80) (size := 1) w (Array.replicate 61 (.slice none 0 0)) 61 hB (by unfold maxLen; omega) (by simp)
  rw [Array.toList_replicate] at o
  have one : ∀ (i : Nat) (x : Value), (List.replicate 61 (Value.slice none 0 0))[i]? = some x → x = .slice none 0 0 := fun i x h => List.eq_of_mem_replicate (List.mem_of_getElem? h)
  refine ⟨by simp, _, o, fun i hi => ⟨.slice none 0 0, by rw [List.getElem?_replicate, if_pos hi], ?_⟩, fun i j x y g _ hx _ hg => ?_, fun i x g hx _ hg => ?_⟩
  · have e : (List.replicate 61 ([] : List Ch.Row)).getD i [] = [] := by rw [List.getD, List.getElem?_replicate, if_pos hi]; rfl
    rw [e]
    exact World.ownsRow_nil _ _ _ _
  · rw [one i x hx] at hg; simp [Value.ownBlock] at hg
  · rw [one i x hx] at hg; simp [Value.ownBlock] at hg
/-- Some leaves were drawn: not many, of few rows. -/

def Ch.bentLv (ls : List (List Ch.Row)) : Prop := Ch.lvSize ls ≤ 1000 ∧ ls.length ≤ 70 ∧ ∀ x ∈ ls, x.length ≤ 5
def BentPost (d s : Nat) (a : Option Addr) (n cap k : Nat) (zs : List Int) (w : World) (e : Ending) (w' : World) : Prop :=
  ∃ ls a' m c' k', Ch.bentLv ls ∧ e = .returned (.slice a' m c') ∧ OwnLv w' w.heap.size (.slice a' m c') m ls ∧ k' ≤ k + d ∧ Src w' s a n cap k' zs ∧ w.grownBy w' (some s)
theorem Ch.bent_size {ls : List (List Ch.Row)} (h1 : ls.length ≤ 70) (h2 : ∀ x ∈ ls, x.length ≤ 5) : Ch.bentLv ls := by
  have := Ch.sum_le ls 5 h2
  refine ⟨?_, h1, h2⟩
  unfold Ch.lvSize
  omega

set_option maxRecDepth 100000 in
set_option maxHeartbeats 4000000 in
theorem l3Bent_any (s : Nat) (a : Option Addr) (n cap k : Nat) (zs : List Int) (w : World) (h : Src w s a n cap k zs) (hb : IsB zs) (hn : n ≤ 1048580) (hk : k ≤ 200) :
    Calls Tryz.prog 39 #[.pointer (some ⟨s, 0, none⟩)] w (BentPost 200 s a n cap k zs w) := by
  have hsl := h.lt
  go_enter Tryz.func39, Tryz.ntmps39
  go_wp2_with fail
  refine (l3Right_any s a n cap k zs _ h hb hn (by omega)).mono ?_
  rintro e w1 ⟨ls, a1, m1, c1, k1, hg1, hl1, rfl, own1, hk1, s1, g1⟩
  have HR : Hid (∀ x ∈ ls, x.length ≤ 4) := fun x hx => (((Ch.good_iff ls).1 hg1).2.1 x hx).2
  clear hg1
  go_wp2_with fail
  refine (next_any 16 s a n cap k1 zs _ s1 hb hn (by omega) (by omega) (by omega)).mono ?_
  rintro e w2 ⟨⟨v, v0, v1, rfl⟩, s2, g2⟩
  have own2 := own1.grown g2 hsl
  have G2 := gr_trans g1 g2
  have z2 := G2.size
  have HM : Hid (m1 = ls.length) := own2.1.symm
  have hm1 : m1 ≤ 20 := by have := HM.out; omega
  clear own1 s1 g1 g2
  have hv : v = 0 ∨ v = 1 ∨ v = 2 ∨ v = 3 ∨ 3 < v := by omega
  have bA : ∀ (W : World) o, Below W.heap.size W (W.alloc o) := fun W o => (Below.refl _ _).alloc (Nat.le_refl _) _
  have hsum : m1 + 1 ≤ 2097152 := by omega
  obtain ⟨vs, hV⟩ := own2.told
  rcases hv with rfl | rfl | rfl | rfl | hv
  · go_wp2_with fail
    refine (page_any s a n cap _ zs _ s2 hb hn (by omega)).mono ?_
    rintro e w3 ⟨⟨g3, m3, c3, rfl, hm3, rs, o3⟩, ⟨k3, hk3, s3⟩, g3'⟩
    have G3 := gr_trans G2 g3'
    have z3 := g3'.size
    have hoV := moved g3' hsl _ _ _ _ _ hV.2.1
    have HRl := (owns_cells o3).rlen
    go_wp2_with (at_builtin; go_must (refine wpList_appLv (.tmp 10) (.tmp 14) w.heap.size (.slice a1 m1 c1) m1 vs 1 [.slice (some ⟨g3, 0, none⟩) m3 c3] hsum (by simp [Value.oneCell']) ?_ ?_ ?_ ?_ ?_ ?_ ?_ (by omega); exact rfl; exact rfl; exact rfl; exact ⟨_, _, rfl, one_leaf rfl⟩; exact owns_below hoV (bA _ _); (focus (simp; omega)); intro a4 c4 w4 own4 gr4 at4))
    go_ret
    have hoB := owns_lt hV.2.1
    have b4 : Below w.heap.size w3 w4 := ((Below.refl _ _).alloc (by omega) _).grown gr4 (by simp; omega) (fun j hj => (hoB j hj).1)
    refine ⟨ls ++ [rs], a4, m1 + 1, c4, k3, ?_, rfl, ?_, by omega, s3.below b4 hsl, gr_on G3 b4⟩
    · refine Ch.bent_size (by simp; omega) (fun x hx => ?_)
      rcases List.mem_append.1 hx with hx | hx
      · have := HR.out x hx; omega
      · simp only [List.mem_singleton] at hx; subst hx; have := HRl.out; omega
    · refine OwnLv.snocS hV (moved g3' hsl) z3 ?_ z2 rfl own4 gr4 at4
      rw [← HRl.out]; exact o3
  · go_wp2_with (at_builtin; go_must (refine wpList_appLv (.tmp 18) (.tmp 20) w.heap.size (.slice a1 m1 c1) m1 vs 1 [.slice none 0 0] hsum (by simp [Value.oneCell']) ?_ ?_ ?_ ?_ ?_ ?_ ?_ (by omega); exact rfl; exact rfl; exact rfl; exact ⟨_, _, rfl, one_leaf rfl⟩; exact owns_below hV.2.1 (bA _ _); (focus (simp; omega)); intro a4 c4 w4 own4 gr4 at4))
    go_ret
    have hoB := owns_lt hV.2.1
    have b4 : Below w.heap.size w2 w4 := ((Below.refl _ _).alloc (by omega) _).grown gr4 (by simp; omega) (fun j hj => (hoB j hj).1)
    refine ⟨ls ++ [[]], a4, m1 + 1, c4, k1 + 1, ?_, rfl, ?_, by omega, s2.below b4 hsl, gr_on G2 b4⟩
    · refine Ch.bent_size (by simp; omega) (fun x hx => ?_)
      rcases List.mem_append.1 hx with hx | hx
      · have := HR.out x hx; omega
      · simp only [List.mem_singleton] at hx; subst hx; simp
    · exact OwnLv.snocS hV (fun _ _ _ _ _ h => h) (Nat.le_refl _) (World.ownsRow_nil _ _ _ _) z2 rfl own4 gr4 at4
  · by_cases hm0 : 0 < m1
    · have hmi : (m1 : Int) > 0 := by omega
      obtain ⟨b, ai, ci, hbe, hbl, cg, hvk, ho, _⟩ := hV.leafAt hm0
      subst hbe
      go_wp2_with fail
      refine (page_any s a n cap _ zs _ s2 hb hn (by omega)).mono ?_
      rintro e w3 ⟨⟨g3, m3, c3, rfl, hm3, rs, o3⟩, ⟨k3, hk3, s3⟩, g3'⟩
      have G3 := gr_trans G2 g3'
      have z3 := g3'.size
      have HRl := (owns_cells o3).rlen
      have oV := moved g3' hsl _ _ _ _ _ hV.2.1
      have hbB := (owns_lt hV.2.1 b rfl).1
      have cg3 := grown_cell g3' cg (by simp; omega)
      have fg3 := oV.frozenAt 0
      have O4 := OwnLv.putS (k := 0) own2 (moved g3' hsl) (x := .slice (some ⟨g3, 0, none⟩) m3 c3) (l := rs) (by rw [← HRl.out]; exact o3) hm0 z2
      go_wp2
      go_ret
      refine ⟨ls.set 0 rs, some ⟨b, 0, none⟩, m1, c1, k3, ?_, rfl, O4, by omega, s3.set (by omega), gr_set' G3 hbB⟩
      refine Ch.bent_size (by simp; omega) (fun x hx => ?_)
      rcases List.mem_or_eq_of_mem_set hx with hx | rfl
      · have := HR.out x hx; omega
      · have := HRl.out; omega
    · obtain rfl : m1 = 0 := by omega
      go_wp2
      go_ret
      exact ⟨ls, a1, 0, c1, k1 + 1, Ch.bent_size (by have := HM.out; omega) (fun x hx => by have := HR.out x hx; omega), rfl, own2, by omega, s2, G2⟩
  · have hmk : ∀ w, (Instr.makeSlice 24 (.int .i64 61) (.int .i64 61)).run Tryz.prog w = .ok (.slice (some ⟨w.heap.size, 0, none⟩) 61 61) (w.alloc (.cells (Array.replicate 61 (.slice none 0 0)) 80)) := fun _ => by kernel_rfl
    have O3 := made_bent w2 w.heap.size z2
    have b3 : Below w2.heap.size w2 (w2.alloc (.cells (Array.replicate 61 (.slice none 0 0)) 80)) := bA _ _
    have s3 := s2.below b3 s2.lt
    have G3 := gr_on G2 (b3.mono z2)
    generalize hMade : w2.alloc (.cells (Array.replicate 61 (.slice none 0 0)) 80) = w3 at *
    have hmk2 := hmk w2
    rw [hMade] at hmk2
    clear hmk hMade b3
    go_wp2
    go_ret
    exact ⟨List.replicate 61 [], some ⟨w2.heap.size, 0, none⟩, 61, 61, k1 + 1, Ch.bent_size (by simp) (fun x hx => by rw [List.eq_of_mem_replicate hx]; simp), rfl, O3, by omega, s3, G3⟩
  · have u0 : (v == 0) = false := by rw [beq_eq_false_iff_ne]; omega
    have u1 : (v == 1) = false := by rw [beq_eq_false_iff_ne]; omega
    have u2 : (v == 2) = false := by rw [beq_eq_false_iff_ne]; omega
    have u3 : (v == 3) = false := by rw [beq_eq_false_iff_ne]; omega
    go_wp2
    go_ret
    exact ⟨ls, a1, m1, c1, k1 + 1, Ch.bent_size (by have := HM.out; omega) (fun x hx => by have := HR.out x hx; omega), rfl, own2, by omega, s2, G2⟩
end Go.Proofs.YthfanfnbjldddaaGreat


/- Leaves and a place drawn. -/
namespace Go.Proofs.YthfanfnbjldddaaGreat
open Go.RowKit

end Go.Proofs.YthfanfnbjldddaaGreat


/- Leaves and a key drawn. -/
namespace Go.Proofs.YthfanfnbjldddaaGreat
open Go.RowKit

theorem Ch.getD_memX (ls : List (List Ch.Row)) (k : Nat) (h : k < ls.length) : ls.getD k [] ∈ ls := by
  simp [List.getD, List.getElem?_eq_getElem h]

set_option maxRecDepth 100000 in
set_option maxHeartbeats 4000000 in
theorem l3With_any (a : Option Addr) (n cap : Nat) (zs : List Int) (w : World) (h : CellsAt w a n (bts zs)) (hb : IsB zs) (hn : n ≤ 1048576) :
    Calls Tryz.prog 14 #[.slice a n cap] w fun e w' => ∃ ls a' m c' at_, Ch.bentLv ls ∧ e = .returned (.tuple #[.slice a' m c', .int .i64 at_]) ∧ OwnLv w' w.heap.size (.slice a' m c') m ls ∧ Below w.heap.size w w' := by
  go_enter Tryz.func14, Tryz.ntmps14
  go_wp2_with fail
  refine (source_any a n cap zs w h).mono ?_
  rintro e w1 ⟨rfl, S1, b1⟩
  have hz1 := S1.lt
  go_wp2_with fail
  refine (l3Bent_any w.heap.size a n cap 0 zs w1 S1 hb (by omega) (by omega)).mono ?_
  rintro e w2 ⟨ls, a2, m, c2, k2, hbe, rfl, o2, hk2, S2, G2⟩
  have hm : m ≤ 70 := by have := o2.1; have := hbe.2.1; omega
  have h5 : ∀ i, (ls.getD i []).length ≤ 5 := fun i => by
    by_cases hi : i < ls.length
    · exact hbe.2.2 _ (Ch.getD_memX ls i hi)
    · simp [List.getD, List.getElem?_eq_none (show ls.length ≤ i by omega)]
  have hsa : ∀ i, (ls.getD i []).length ≤ 9223372036854775807 := fun i => by have := h5 i; omega
  have hz2 := G2.size
  have hlo : ∀ b off, a2 = some ⟨b, off, none⟩ → 0 < m → w.heap.size < b := fun b off hab hp => by
    subst hab
    obtain ⟨_, vs, ho, _⟩ := o2
    rcases ho.2 with ⟨hv, _⟩ | ⟨g, cp, cur, hv, _⟩
    · simp at hv
    · have := owns_lt ho g (by rw [hv]; rfl)
      simp only [Value.slice.injEq, Option.some.injEq, Addr.mk.injEq] at hv
      omega
  go_wp2_with fail
  refine (next_any 20 w.heap.size a n cap k2 zs _ S2 hb (by omega) (by omega) (by omega) (by omega)).mono ?_
  rintro e w3 ⟨⟨kk, _, _, rfl⟩, S3, G3⟩
  have O3 := o2.grown G3 hz1
  have o3 := O3.at hsa
  by_cases hm0 : m = 0
  · subst hm0
    have hzX := (G3).size
    go_wp2_with fail
    refine (pick_any w3.heap.size 6 [kk, kk, kk, 99, 100, -1] w.heap.size a n cap (k2 + 1) zs _ (S3).new hb (by omega) (by omega) (heap_alloc_new w3 _) (by omega) rfl (by omega) (by omega)).mono ?_
    rintro e w9 ⟨⟨v9, _, rfl⟩, S9, G9⟩
    have G29 := gr_trans (G3) (gr_alloc G9)
    go_wp2
    exact bodyPost_ret (v := .tuple #[.slice (a2) (0) c2, .int .i64 v9]) (by simp [results, Tryz.results14, go_sem]) rfl ⟨ls, a2, 0, c2, v9, hbe, rfl, (o2.grown G29 hz1).base (by omega), b1.trans (below_gr (gr_trans G2 G29) (Nat.le_refl _) (by omega))⟩
  obtain ⟨p, rfl⟩ : ∃ p, m = p + 1 := ⟨m - 1, by omega⟩
  have hw1 : IntKind.i64.wrap (((p + 1 : Nat) : Int) - 1) = (p : Int) := by rw [show ((p + 1 : Nat) : Int) - 1 = (p : Int) by omega]; exact IntWalk.i64_in _ ⟨by omega, by omega⟩
  have hw2 : ((p + 1 : Nat) : Int) - 1 = (p : Int) := by omega
  obtain ⟨b2, q2, ai, ni, ci, rfl, hc, hr, hni⟩ := o3.leaf (k := p) (by omega)
  have hb2 := hlo b2 q2 rfl (by omega)
  have hpi : (p : Int) < ((p + 1 : Nat) : Int) := by omega
  by_cases hn0 : ni = 0
  · subst hn0
    have hzX := (G3).size
    go_wp2_with fail
    refine (pick_any w3.heap.size 6 [kk, kk, kk, 99, 100, -1] w.heap.size a n cap (k2 + 1) zs _ (S3).new hb (by omega) (by omega) (heap_alloc_new w3 _) (by omega) rfl (by omega) (by omega)).mono ?_
    rintro e w9 ⟨⟨v9, _, rfl⟩, S9, G9⟩
    have G29 := gr_trans (G3) (gr_alloc G9)
    go_wp2
    exact bodyPost_ret (v := .tuple #[.slice (some ⟨b2, q2, none⟩) (p + 1) c2, .int .i64 v9]) (by simp [results, Tryz.results14, go_sem]) rfl ⟨ls, some ⟨b2, q2, none⟩, p + 1, c2, v9, hbe, rfl, (o2.grown G29 hz1).base (by omega), b1.trans (below_gr (gr_trans G2 G29) (Nat.le_refl _) (by omega))⟩
  have hn1 : (0 : Int) < (ni : Int) := by omega
  go_wp2_with fail
  refine (chance_any 2 w.heap.size a n cap (k2 + 1) zs _ S3 hb (by omega) (by omega) (by omega) (by omega)).mono ?_
  rintro e w4 ⟨⟨cb, rfl⟩, S4, G4⟩
  have G34 := gr_trans G3 G4
  clear hc hr o3
  cases cb
  · skip
    have hzX := (G34).size
    go_wp2_with fail
    refine (pick_any w4.heap.size 6 [kk, kk, kk, 99, 100, -1] w.heap.size a n cap (k2 + 1 + 1) zs _ (S4).new hb (by omega) (by omega) (heap_alloc_new w4 _) (by omega) rfl (by omega) (by omega)).mono ?_
    rintro e w9 ⟨⟨v9, _, rfl⟩, S9, G9⟩
    have G29 := gr_trans (G34) (gr_alloc G9)
    go_wp2
    exact bodyPost_ret (v := .tuple #[.slice (some ⟨b2, q2, none⟩) (p + 1) c2, .int .i64 v9]) (by simp [results, Tryz.results14, go_sem]) rfl ⟨ls, some ⟨b2, q2, none⟩, p + 1, c2, v9, hbe, rfl, (o2.grown G29 hz1).base (by omega), b1.trans (below_gr (gr_trans G2 G29) (Nat.le_refl _) (by omega))⟩
  go_wp2_with fail
  refine (next_any ((p + 1 : Nat) : Int) w.heap.size a n cap (k2 + 1 + 1) zs _ S4 hb (by omega) (by omega) (by omega) (by omega)).mono ?_
  rintro e w5 ⟨⟨v5, v50, v51, rfl⟩, S5, G5⟩
  have G35 := gr_trans G34 G5
  obtain ⟨i, rfl⟩ : ∃ i : Nat, v5 = (i : Int) := ⟨v5.toNat, by omega⟩
  have hip : i < p + 1 := by omega
  obtain ⟨vs5, V5⟩ := (o2.grown G35 hz1).told
  obtain ⟨b5, ai5, d2, hbq, _, g5, _, ow5, _⟩ := V5.leafAt hip
  simp only [Option.some.injEq, Addr.mk.injEq, and_true] at hbq
  obtain ⟨rfl, rfl⟩ := hbq
  have hr5 := owns_cells ow5
  have hn25 := h5 i
  have k5 := owns_lt ow5
  generalize ls.getD i [] = l5 at *
  generalize hl5 : l5.length = n2 at *
  have hipi : (i : Int) < (p : Int) + 1 := by omega
  clear V5
  by_cases hz0 : n2 = 0
  · subst hz0
    have hzX := (G35).size
    go_wp2_with fail
    refine (pick_any w5.heap.size 6 [kk, kk, kk, 99, 100, -1] w.heap.size a n cap (k2 + 1 + 1 + 1) zs _ (S5).new hb (by omega) (by omega) (heap_alloc_new w5 _) (by omega) rfl (by omega) (by omega)).mono ?_
    rintro e w9 ⟨⟨v9, _, rfl⟩, S9, G9⟩
    have G29 := gr_trans (G35) (gr_alloc G9)
    go_wp2
    exact bodyPost_ret (v := .tuple #[.slice (some ⟨b2, 0, none⟩) (p + 1) c2, .int .i64 v9]) (by simp [results, Tryz.results14, go_sem]) rfl ⟨ls, some ⟨b2, 0, none⟩, p + 1, c2, v9, hbe, rfl, (o2.grown G29 hz1).base (by omega), b1.trans (below_gr (gr_trans G2 G29) (Nat.le_refl _) (by omega))⟩
  have hn21 : (0 : Int) < (n2 : Int) := by omega
  obtain ⟨r2, s2, rfl, _⟩ := hr5.row (k := 0) (by omega)
  have hr2 : w.heap.size ≠ r2 := by
    rcases ow5.2 with ⟨_, h00⟩ | ⟨g, cp, cur, hv, _⟩
    · omega
    · have := k5 g (by rw [hv]; rfl)
      simp only [Value.slice.injEq, Option.some.injEq, Addr.mk.injEq] at hv
      omega
  go_wp2
  refine wp_region_noPanic ?_
  refine wp_region_held_drew (S := fun W' => W'.cell? ⟨b2, i, none⟩ = some (.slice (some ⟨r2, s2, none⟩) n2 d2) ∧ (∀ j, j < n2 → ∃ kj, W'.cell? ⟨r2, s2 + j * 3, none⟩ = some (.int .i64 kj))) (by kernel_rfl) (⟨g5, fun j hj => by obtain ⟨_, _, hx, y0, _⟩ := hr5.row hj; cases hx; exact ⟨_, y0⟩⟩) (fun hH => ?_)
  refine hTake (i := 0) (v := ?_) rfl (by kernel_rfl) (by kernel_rfl) (by kernel_rfl) (by rfl) ?_ hH ?_
  rotate_left
  · intro W hW; (try dsimp only at hW); go_simp <;> with_reducible rfl
  simp only [Act.put, List.setIfInBounds_toArray, List.set_cons_zero, List.set_cons_succ]
  refine hTake (i := 1) (v := ?_) rfl (by kernel_rfl) (by kernel_rfl) (by kernel_rfl) (by rfl) ?_ hH ?_
  rotate_left
  · intro W hW; (try dsimp only at hW); go_simp <;> with_reducible rfl
  simp only [Act.put, List.setIfInBounds_toArray, List.set_cons_zero, List.set_cons_succ]
  refine hTake (i := 2) (v := ?_) rfl (by kernel_rfl) (by kernel_rfl) (by kernel_rfl) (by rfl) ?_ hH ?_
  rotate_left
  · intro W hW; (try dsimp only at hW); go_simp <;> with_reducible rfl
  simp only [Act.put, List.setIfInBounds_toArray, List.set_cons_zero, List.set_cons_succ]
  refine hTake (i := 3) (v := ?_) rfl (by kernel_rfl) (by kernel_rfl) (by kernel_rfl) (by rfl) ?_ hH ?_
  rotate_left
  · intro W hW; (try dsimp only at hW); go_simp <;> with_reducible rfl
  simp only [Act.put, List.setIfInBounds_toArray, List.set_cons_zero, List.set_cons_succ]
  refine hTake (i := 4) (v := ?_) rfl (by kernel_rfl) (by kernel_rfl) (by kernel_rfl) (by rfl) ?_ hH ?_
  rotate_left
  · intro W hW; (try dsimp only at hW); go_simp <;> with_reducible rfl
  simp only [Act.put, List.setIfInBounds_toArray, List.set_cons_zero, List.set_cons_succ]
  refine hTake (i := 5) (v := ?_) rfl (by kernel_rfl) (by kernel_rfl) (by kernel_rfl) (by rfl) ?_ hH ?_
  rotate_left
  · intro W hW; (try dsimp only at hW); go_simp <;> with_reducible rfl
  simp only [Act.put, List.setIfInBounds_toArray, List.set_cons_zero, List.set_cons_succ]
  refine hTake (i := 6) (v := ?_) rfl (by kernel_rfl) (by kernel_rfl) (by kernel_rfl) (by rfl) ?_ hH ?_
  rotate_left
  · intro W hW; (try dsimp only at hW); go_simp <;> with_reducible rfl
  simp only [Act.put, List.setIfInBounds_toArray, List.set_cons_zero, List.set_cons_succ]
  refine hTake (i := 7) (v := ?_) rfl (by kernel_rfl) (by kernel_rfl) (by kernel_rfl) (by rfl) ?_ hH ?_
  rotate_left
  · intro W hW; (try dsimp only at hW); go_simp <;> with_reducible rfl
  simp only [Act.put, List.setIfInBounds_toArray, List.set_cons_zero, List.set_cons_succ]
  refine hTake (i := 8) (v := ?_) rfl (by kernel_rfl) (by kernel_rfl) (by kernel_rfl) (by rfl) ?_ hH ?_
  rotate_left
  · intro W hW; (try dsimp only at hW); go_simp <;> with_reducible rfl
  simp only [Act.put, List.setIfInBounds_toArray, List.set_cons_zero, List.set_cons_succ]
  refine hTake (i := 9) (v := ?_) rfl (by kernel_rfl) (by kernel_rfl) (by kernel_rfl) (by rfl) ?_ hH ?_
  rotate_left
  · intro W hW; (try dsimp only at hW); go_simp <;> with_reducible rfl
  simp only [Act.put, List.setIfInBounds_toArray, List.set_cons_zero, List.set_cons_succ]
  refine hTake (i := 10) (v := ?_) rfl (by kernel_rfl) (by kernel_rfl) (by kernel_rfl) (by rfl) ?_ hH ?_
  rotate_left
  · intro W hW; (try dsimp only at hW); go_simp <;> with_reducible rfl
  simp only [Act.put, List.setIfInBounds_toArray, List.set_cons_zero, List.set_cons_succ]
  refine hTake (i := 11) (v := ?_) rfl (by kernel_rfl) (by kernel_rfl) (by kernel_rfl) (by rfl) ?_ hH ?_
  rotate_left
  · intro W hW; (try dsimp only at hW); go_simp <;> with_reducible rfl
  simp only [Act.put, List.setIfInBounds_toArray, List.set_cons_zero, List.set_cons_succ]
  refine wpAnyH_ready (rs := [12]) (by kernel_rfl) (by simp) ?_
  refine AllReadyH.cons rfl (fun K hK => ?_) AllReadyH.nil
  go_simp
  refine (next_any (n2 : Int) w.heap.size a n cap (k2 + 1 + 1 + 1) zs w5.drew ⟨S5.box, S5.far, S5.bytes⟩ hb (by omega) (by omega) (by omega) (by omega)).mono ?_
  rintro e w7 ⟨⟨v7, v70, v71, rfl⟩, S7, G7⟩
  have G7 : w5.grownBy w7 (some w.heap.size) := ⟨G7.os, G7.tape, G7.output, G7.size, G7.block⟩
  obtain ⟨j, rfl⟩ : ∃ j : Nat, v7 = (j : Int) := ⟨v7.toNat, by omega⟩
  have hj : j < n2 := by omega
  go_wp2_with fail
  refine hK.out _ _ ?_ (fun hH => ?_)
  · exact ⟨grown_cell G7 hH.1 (by simp; omega), fun j hj => by obtain ⟨kj, hkj⟩ := hH.2 j hj; exact ⟨kj, grown_cell G7 hkj (by simp; omega)⟩⟩
  clear hK K
  refine hTake (i := 13) (v := ?_) rfl (by kernel_rfl) (by kernel_rfl) (by kernel_rfl) (by rfl) ?_ hH ?_
  rotate_left
  · intro W hW; (try dsimp only at hW); go_simp <;> with_reducible rfl
  simp only [Act.put, List.setIfInBounds_toArray, List.set_cons_zero, List.set_cons_succ]
  refine hTake (i := 14) (v := ?_) rfl (by kernel_rfl) (by kernel_rfl) (by kernel_rfl) (by rfl) ?_ hH ?_
  rotate_left
  · intro W hW; (try dsimp only at hW); go_simp <;> with_reducible rfl
  simp only [Act.put, List.setIfInBounds_toArray, List.set_cons_zero, List.set_cons_succ]
  obtain ⟨kj, hkj⟩ := hH.2 j hj
  refine wpAnyH_ready (rs := [15]) (by kernel_rfl) (by simp) ?_
  refine AllReadyH.cons rfl (fun K hK => ?_) AllReadyH.nil
  go_simp
  refine hK.out _ _ ?_ (fun hH => ?_)
  · exact hH
  clear hK K
  refine hTake (i := 16) (v := ?_) rfl (by kernel_rfl) (by kernel_rfl) (by kernel_rfl) (by rfl) ?_ hH ?_
  rotate_left
  · intro W hW; (try dsimp only at hW); go_simp <;> with_reducible rfl
  simp only [Act.put, List.setIfInBounds_toArray, List.set_cons_zero, List.set_cons_succ]
  refine wpAnyH_done (by kernel_rfl) ?_ _
  refine NoPanic.normal ?_
  clear hH
  have G37 := gr_trans G35 G7
  have hzX := (G37).size
  go_wp2_with fail
  refine (pick_any w7.heap.size 6 [kj, kj, kj, 99, 100, -1] w.heap.size a n cap (k2 + 1 + 1 + 1 + 1) zs _ (S7).new hb (by omega) (by omega) (heap_alloc_new w7 _) (by omega) rfl (by omega) (by omega)).mono ?_
  rintro e w9 ⟨⟨v9, _, rfl⟩, S9, G9⟩
  have G29 := gr_trans (G37) (gr_alloc G9)
  go_wp2
  exact bodyPost_ret (v := .tuple #[.slice (some ⟨b2, 0, none⟩) (p + 1) c2, .int .i64 v9]) (by simp [results, Tryz.results14, go_sem]) rfl ⟨ls, some ⟨b2, 0, none⟩, p + 1, c2, v9, hbe, rfl, (o2.grown G29 hz1).base (by omega), b1.trans (below_gr (gr_trans G2 G29) (Nat.le_refl _) (by omega))⟩
end Go.Proofs.YthfanfnbjldddaaGreat


/- Leaves and a row drawn. -/
namespace Go.Proofs.YthfanfnbjldddaaGreat
open Go.RowKit

theorem Tryz.info5y : (Tryz.prog.info? 5).map (fun i => (i.zero, i.size, i.bytes)) = some (some (.int .u8 0), 1, 1) := by kernel_rfl
theorem wpList_appVy {ops : Array Oper} {rest : List Oper} {o : Oper} {a : Act} {w : World} {Q : Exit → Act → World → Prop} (s x : Operand)
    (B : Nat) (v : Value) (n : Nat) (xs : List Value) (m : Nat) (zs : List Int) (hm : n + m ≤ 1099511627776)
    (ho : o.op = .call { callee := .builtin .append, args := #[s, x], argTypes := #[22, 22] }) (hgd : o.guard = none)
    (hs : a.eval s = v) (hx : ∃ ad c, a.eval x = .slice (some ad) m c ∧ CellsAt w (some ad) m (bts zs))
    (hown : w.ownsRow B 5 1 v n xs) (hbase : B ≤ w.heap.size)
    (hK : ∀ a' c' w', w'.ownsRow B 5 1 (.slice a' (n + m) c') (n + m) (xs ++ bts zs) → Below B w w' → wpList Tryz.prog ops Q rest (a.put o.dst (.slice a' (n + m) c')) w') :
    wpList Tryz.prog ops Q (o :: rest) a w := by
  obtain ⟨ad, c, hx, hc⟩ := hx
  obtain ⟨i0, hi, hz0, hz1, hz2⟩ := info_parts Tryz.info5y
  have hl := hc.len.out
  refine wpList_append_own w hgd s x 22 ho B 5 i0 _ 1 1 Tryz.underlying22 hi hz0 hz1 hz2 rfl (by omega) v n xs hs hown ad m c (bts zs) hx (by simp [bts]; omega) ?_ ?_ (by unfold maxLen; omega) (by omega) hbase ?_
  · intro j u hj
    have hjl : j < (bts zs).length := (List.getElem?_eq_some_iff.1 hj).1
    simp [bts] at hjl
    obtain ⟨b, off, ha, hcc⟩ := hc.2 (by omega)
    simp only [Option.some.injEq] at ha
    subst ha
    have e : (⟨b, off, none⟩ : Addr).add j = ⟨b, off + j, none⟩ := by
      unfold Addr.add
      split
      · next h0 => subst h0; rfl
      · rfl
    rw [e, hcc j (by omega), hj]
  · intro u hu
    obtain ⟨z, _, rfl⟩ := List.mem_map.1 hu
    rfl
  · intro v' w' hown' hgrow _
    obtain ⟨a', c', rfl⟩ := owns_shape hown'
    refine hK a' c' w' hown' ((Below.refl _ _).grown hgrow hbase (fun k hk => ?_))
    rcases hown.2 with ⟨hv, _⟩ | ⟨g, cap', cur, hv, hb, _⟩
    · subst hv; simp [Value.ownBlock] at hk
    · subst hv; simp [Value.ownBlock] at hk; omega

theorem owns_capRy {w : World} {base : Nat} {e : TypeId} {size : Nat} {a : Option Addr} {n cap : Nat} {xs : List Value} (h : w.ownsRow base e size (.slice a n cap) n xs) : n ≤ cap := by
  rcases h.2 with ⟨hv, h0⟩ | ⟨g, cap', cur, hv, _, _, h1, _⟩
  · omega
  · simp only [Value.slice.injEq] at hv
    omega

theorem app_nily (g n cp c ty : Nat) (w : World) (h : n ≤ cp) : (Builtin.append_ #[22, 22] ty #[.slice (some ⟨g, 0, none⟩) n cp, .slice none 0 c]).run Tryz.prog w = .ok (.slice (some ⟨g, 0, none⟩) n cp) w := by
  obtain ⟨i0, hi, hz0, hz1, hz2⟩ := info_parts Tryz.info5y
  simp [Builtin.append_, run_underlying Tryz.underlying22, sizeOf, typeInfo, hi, Builtin.lenOf, Builtin.firstCells, h, storeCells]

/-- Bytes that came in, appended to bytes of one's own. -/
theorem wpList_appOy {ops : Array Oper} {rest : List Oper} {o : Oper} {a : Act} {w : World} {Q : Exit → Act → World → Prop} (s x : Operand)
    (B g n cp : Nat) (xs : List Value) (A : Option Addr) (m c : Nat) (zs : List Int) (hm : n + m ≤ 1099511627776)
    (ho : o.op = .call { callee := .builtin .append, args := #[s, x], argTypes := #[22, 22] }) (hgd : o.guard = none)
    (hs : a.eval s = .slice (some ⟨g, 0, none⟩) n cp) (hx : a.eval x = .slice A m c) (hc : CellsAt w A m (bts zs))
    (hown : w.ownsRow B 5 1 (.slice (some ⟨g, 0, none⟩) n cp) n xs) (hbase : B ≤ w.heap.size)
    (hK : ∀ a' c' w', w'.ownsRow B 5 1 (.slice a' (n + m) c') (n + m) (xs ++ bts zs) → Below B w w' → wpList Tryz.prog ops Q rest (a.put o.dst (.slice a' (n + m) c')) w') :
    wpList Tryz.prog ops Q (o :: rest) a w := by
  cases A with
  | some ad => exact wpList_appVy s x B _ n xs m zs hm ho hgd hs ⟨ad, c, hx, hc⟩ hown hbase hK
  | none =>
    have hm0 : m = 0 := by
      rcases Nat.eq_zero_or_pos m with h | h
      · exact h
      · obtain ⟨b, off, hb, _⟩ := hc.2 h; cases hb
    subst hm0
    have hz : zs = [] := by have := hc.len.out; exact List.length_eq_zero_iff.1 this.symm
    subst hz
    have hcap : n ≤ cp := owns_capRy hown
    have hr := app_nily g n cp c o.type w hcap
    refine Lib.wpList_append_run w hgd s x 22 22 ho _ _ hs hx _ _ hr ?_
    have := hK (some ⟨g, 0, none⟩) cp w (by simpa [bts] using hown) (Below.refl _ _)
    simpa using this

theorem OwnLv.drw {w : World} {B n : Nat} {v : Value} {ls : List (List Ch.Row)} (h : OwnLv w B v n ls) : OwnLv w.drew B v n ls := h
end Go.Proofs.YthfanfnbjldddaaGreat


/- The draw of FnSets (and FnIndexes). -/
namespace Go.Proofs.YthfanfnbjldddaaGreat
open Go.RowKit

set_option linter.unusedSimpArgs false in
set_option maxRecDepth 100000 in
set_option maxHeartbeats 4000000 in
theorem drawSet_any (a : Option Addr) (n cap : Nat) (zs : List Int) (w : World) (h : CellsAt w a n (bts zs)) (hb : IsB zs) (hn : n ≤ 1048576) :
    Calls Tryz.prog 5 #[.slice a n cap] w fun e w' => ∃ ls a' m c' tx key has v, Ch.bentLv ls ∧ e = .returned (.tuple #[.slice a' m c', .int .i64 tx, .int .i64 key, .bool has, .int .i64 v]) ∧ OwnLv w' w.heap.size (.slice a' m c') m ls ∧ Below w.heap.size w w' := by
  go_enter Tryz.func5, Tryz.ntmps5
  go_wp2_with fail
  refine (l3With_any a n cap zs _ h hb hn).mono ?_
  rintro e w1 ⟨ls, a1, m, c1, key, hbe, rfl, o1, b1⟩
  have hc1 := h.below b1
  have own0 : (w1.alloc (.cells #[.int .u8 3] 5)).ownsRow w1.heap.size 5 1 (.slice (some ⟨w1.heap.size, 0, none⟩) 1 1) 1 [.int .u8 3] := World.ownsRow_lit w1 #[.int .u8 3] 1 (Nat.le_refl _) (by unfold maxLen; omega) rfl
  have bL : Below w1.heap.size w1 (w1.alloc (.cells #[.int .u8 3] 5)) := (Below.refl _ _).alloc (Nat.le_refl _) _
  have hcL := hc1.below bL
  have hsum : 1 + n ≤ 1099511627776 := by omega
  go_wp2_with (at_builtin; go_must (refine wpList_appOy (.tmp 17) (.tmp 18) w1.heap.size w1.heap.size 1 1 [.int .u8 3] a n cap zs hsum ?_ ?_ ?_ ?_ ?_ ?_ ?_ ?_; exact rfl; exact rfl; exact rfl; exact rfl; exact hcL; exact own0; (focus (simp; done)); intro a2 c2 w2 own2 b2))
  have B2 := bL.trans b2
  have hz2 := B2.size
  have hcs : CellsAt w2 a2 (1 + n) (bts (3 :: zs)) := by
    have := owns_cells own2
    rw [Nat.mul_one] at this
    simpa [bts] using this
  have hb3 : IsB (3 :: zs) := by
    intro i
    cases i with
    | zero => simp
    | succ i => simpa using hb i
  have O2 := o1.below B2
  have bE2 := b1.trans (B2.mono b1.size)
  clear own0 bL hcL b2 own2 hc1 B2 b1 o1
  refine (source_any a2 (1 + n) c2 (3 :: zs) w2 hcs).mono ?_
  rintro e w3 ⟨rfl, S3, b3⟩
  have hz3 := S3.lt
  go_wp2_with fail
  refine (chance_any 2 w2.heap.size a2 (1 + n) c2 0 (3 :: zs) w3 S3 hb3 (by omega) (by omega) (by omega) (by omega)).mono ?_
  rintro e w4 ⟨⟨has, rfl⟩, S4, G4⟩
  have hz4 := G4.size
  have B4 := b3.trans (below_gr (B := w2.heap.size) G4 (Nat.le_refl _) (by omega))
  clear S3 b3 G4
  cases has
  · go_wp2_with fail
    refine (chance_any 8 w2.heap.size a2 (1 + n) c2 1 (3 :: zs) w4 S4 hb3 (by omega) (by omega) (by omega) (by omega)).mono ?_
    rintro e w5 ⟨⟨may, rfl⟩, S5, G5⟩
    have hz5 := G5.size
    have B5 := B4.trans (below_gr (B := w2.heap.size) G5 (Nat.le_refl _) (by omega))
    clear S4 B4 G5
    cases may
    · go_wp2_with fail
      refine (pick_any w5.heap.size 4 [1, 2, 3, 0] w2.heap.size a2 (1 + n) c2 2 (3 :: zs) _ S5.new hb3 (by omega) (by omega) (heap_alloc_new w5 _) (by omega) rfl (by omega) (by omega)).mono ?_
      rintro e w9 ⟨⟨tx, _, rfl⟩, S9, G9⟩
      have B9 : Below w2.heap.size w5 w9 := ((Below.refl _ _).alloc (by omega) _).trans (below_gr (B := w2.heap.size) G9 (Nat.le_refl _) (by simp; omega))
      have B10 := B5.trans B9
      go_wp2
      exact bodyPost_ret (v := .tuple #[.slice a1 m c1, .int .i64 tx, .int .i64 key, .bool false, .int .i64 0]) (by simp [results, Tryz.results5, go_sem]) rfl ⟨ls, a1, m, c1, tx, key, false, 0, hbe, rfl, O2.below B10, bE2.trans (B10.mono bE2.size)⟩
    · go_wp2_with fail
      refine (next_any 50 w2.heap.size a2 (1 + n) c2 2 (3 :: zs) w5 S5 hb3 (by omega) (by omega) (by omega) (by omega)).mono ?_
      rintro e w6 ⟨⟨d, _, _, rfl⟩, S6, G6⟩
      have hz6 := G6.size
      have B6 := B5.trans (below_gr (B := w2.heap.size) G6 (Nat.le_refl _) (by omega))
      clear S5 B5 G6
      go_wp2_with fail
      refine (next_any 50 w2.heap.size a2 (1 + n) c2 3 (3 :: zs) w6 S6 hb3 (by omega) (by omega) (by omega) (by omega)).mono ?_
      rintro e w7 ⟨⟨d', _, _, rfl⟩, S7, G7⟩
      have hz7 := G7.size
      have B7 := B6.trans (below_gr (B := w2.heap.size) G7 (Nat.le_refl _) (by omega))
      clear S6 B6 G7
      go_wp2_with fail
      refine (pick_any w7.heap.size 3 [d, d', 10000] w2.heap.size a2 (1 + n) c2 4 (3 :: zs) _ S7.new hb3 (by omega) (by omega) (heap_alloc_new w7 _) (by omega) rfl (by omega) (by omega)).mono ?_
      rintro e w8 ⟨⟨v, _, rfl⟩, S8, G8⟩
      have hz8 := G8.size
      simp at hz8
      have B8 := (B7.alloc B7.size (.cells #[.int .i64 d, .int .i64 d', .int .i64 10000] 2)).trans (below_gr (B := w2.heap.size) G8 (Nat.le_refl _) (by simp; omega))
      clear S7 B7 G8
      go_wp2_with fail
      refine (pick_any w8.heap.size 4 [1, 2, 3, 0] w2.heap.size a2 (1 + n) c2 5 (3 :: zs) _ S8.new hb3 (by omega) (by omega) (heap_alloc_new w8 _) (by omega) rfl (by omega) (by omega)).mono ?_
      rintro e w9 ⟨⟨tx, _, rfl⟩, S9, G9⟩
      have B9 : Below w2.heap.size w8 w9 := ((Below.refl _ _).alloc (by omega) _).trans (below_gr (B := w2.heap.size) G9 (Nat.le_refl _) (by simp; omega))
      have B10 := B8.trans B9
      go_wp2
      exact bodyPost_ret (v := .tuple #[.slice a1 m c1, .int .i64 tx, .int .i64 key, .bool false, .int .i64 v]) (by simp [results, Tryz.results5, go_sem]) rfl ⟨ls, a1, m, c1, tx, key, false, v, hbe, rfl, O2.below B10, bE2.trans (B10.mono bE2.size)⟩
  · go_wp2_with fail
    refine (next_any 50 w2.heap.size a2 (1 + n) c2 1 (3 :: zs) w4 S4 hb3 (by omega) (by omega) (by omega) (by omega)).mono ?_
    rintro e w6 ⟨⟨d, _, _, rfl⟩, S6, G6⟩
    have hz6 := G6.size
    have B6 := B4.trans (below_gr (B := w2.heap.size) G6 (Nat.le_refl _) (by omega))
    clear S4 B4 G6
    go_wp2_with fail
    refine (next_any 50 w2.heap.size a2 (1 + n) c2 2 (3 :: zs) w6 S6 hb3 (by omega) (by omega) (by omega) (by omega)).mono ?_
    rintro e w7 ⟨⟨d', _, _, rfl⟩, S7, G7⟩
    have hz7 := G7.size
    have B7 := B6.trans (below_gr (B := w2.heap.size) G7 (Nat.le_refl _) (by omega))
    clear S6 B6 G7
    go_wp2_with fail
    refine (pick_any w7.heap.size 3 [d, d', 10000] w2.heap.size a2 (1 + n) c2 3 (3 :: zs) _ S7.new hb3 (by omega) (by omega) (heap_alloc_new w7 _) (by omega) rfl (by omega) (by omega)).mono ?_
    rintro e w8 ⟨⟨v, _, rfl⟩, S8, G8⟩
    have hz8 := G8.size
    simp at hz8
    have B8 := (B7.alloc B7.size (.cells #[.int .i64 d, .int .i64 d', .int .i64 10000] 2)).trans (below_gr (B := w2.heap.size) G8 (Nat.le_refl _) (by simp; omega))
    clear S7 B7 G8
    go_wp2_with fail
    refine (pick_any w8.heap.size 4 [1, 2, 3, 0] w2.heap.size a2 (1 + n) c2 4 (3 :: zs) _ S8.new hb3 (by omega) (by omega) (heap_alloc_new w8 _) (by omega) rfl (by omega) (by omega)).mono ?_
    rintro e w9 ⟨⟨tx, _, rfl⟩, S9, G9⟩
    have B9 : Below w2.heap.size w8 w9 := ((Below.refl _ _).alloc (by omega) _).trans (below_gr (B := w2.heap.size) G9 (Nat.le_refl _) (by simp; omega))
    have B10 := B8.trans B9
    go_wp2
    exact bodyPost_ret (v := .tuple #[.slice a1 m c1, .int .i64 tx, .int .i64 key, .bool true, .int .i64 v]) (by simp [results, Tryz.results5, go_sem]) rfl ⟨ls, a1, m, c1, tx, key, true, v, hbe, rfl, O2.below B10, bE2.trans (B10.mono bE2.size)⟩
end Go.Proofs.YthfanfnbjldddaaGreat

