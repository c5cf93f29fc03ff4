/- Several texts in one: PutA, PutB, PutC, PutD. -/
import Derived.Test.YtjagobcogkdfhaaInsZ
import Derived.Test.YtjagobcogkdfhaaPlZ
import Derived.Test.YtjagobcogkdfhaaDropI
import Derived.BigQuiet
import Derived.Test.YtjagobcogkdfhaaDropS
import Derived.Test.YtjagobcogkdfhaaPutN


/- insertRow of the program: a row put in between. -/
namespace Go.Proofs.Ytjagobcogkdfhaa
open Go.RowKit

theorem gr_chain {w W w' : World} {row : Option Nat} (hb : Below w.heap.size w W) (h : W.grownBy w' row) : w.grownBy w' row :=
  ⟨h.os.trans hb.os, h.tape.trans hb.tape, h.output.trans hb.output, Nat.le_trans hb.size h.size, fun k hk hne => (h.block k (Nat.lt_of_lt_of_le hk hb.size) hne).trans (hb.block k hk)⟩
theorem rcells_take (l : List Ch.Row) (i : Nat) : (rcells l).take (i * 3) = rcells (l.take i) := by
  by_cases h : i ≤ l.length
  · conv => lhs; rw [← List.take_append_drop i l, rcells_append]
    exact List.take_left' (by rw [rcells_len]; simp; omega)
  · rw [List.take_of_length_le (by rw [rcells_len]; omega), List.take_of_length_le (by omega)]
theorem rcells_drop (l : List Ch.Row) (i : Nat) : (rcells l).drop (i * 3) = rcells (l.drop i) := by
  by_cases h : i ≤ l.length
  · conv => lhs; rw [← List.take_append_drop i l, rcells_append]
    exact List.drop_left' (by rw [rcells_len]; simp; omega)
  · rw [List.drop_of_length_le (by rw [rcells_len]; omega), List.drop_of_length_le (by omega)]; rfl

set_option maxHeartbeats 4000000 in
theorem insertRow_any (B g n cap : Nat) (l : List Ch.Row) (rk rv : Int) (rg : Bool) (w : World) (hown : w.ownsRow B 33 3 (.slice (some ⟨g, 0, none⟩) n cap) n (rcells l)) (hn : n ≤ 1048576) (hB : B ≤ w.heap.size) :
    Calls Try.prog 198 #[.slice (some ⟨g, 0, none⟩) n cap, .agg #[.int .i64 rk, .int .i64 rv, .bool rg]] w fun e w' => ∃ g' c', e = .returned (.slice (some ⟨g', 0, none⟩) (n + 1) c') ∧ w'.ownsRow B 33 3 (.slice (some ⟨g', 0, none⟩) (n + 1) c') (n + 1) (rcells (l.take (Ch.insAt rk l) ++ [⟨rk, rv, rg⟩] ++ l.drop (Ch.insAt rk l))) ∧ w.grownBy w' (some g) ∧ (g' = g ∨ w.heap.size ≤ g') := by
  have hc := owns_cells hown
  have HL := hc.rlen
  have hgl : g < w.heap.size := (owns_lt hown g rfl).2
  have b0 : ∀ t, Below w.heap.size w (w.alloc (.cells #[.int .i64 rk, .int .i64 rv, .bool rg] t)) := fun t => (Below.refl _ _).alloc (Nat.le_refl _) _
  go_enter Try.func198, Try.ntmps198
  go_wp2
  go_loopw [5] (fun i wr => ∃ t : Nat, t ≤ n ∧ i = .int .i64 t ∧ (∀ j, j < t → (l.getD j Ch.Row.zero).k < rk) ∧ wr.cell? ⟨w.heap.size, 0, none⟩ = some (.int .i64 rk) ∧ wr.cell? ⟨w.heap.size, 1, none⟩ = some (.int .i64 rv) ∧ wr.cell? ⟨w.heap.size, 2, none⟩ = some (.bool rg) ∧ Below w.heap.size w wr) (fun i _ => n - (intOf i).toNat)
  case atStart => exact ⟨0, Nat.zero_le _, rfl, fun j hj => absurd hj (by omega), by simp [go_sem], by simp [go_sem], by simp [go_sem], b0 _⟩
  case round =>
    obtain ⟨t, ht, rfl, hlow, r0, r1, r2, hB1⟩ := hrel
    have HLow := hid hlow
    clear hlow
    have hown1 := owns_below hown hB1
    have hstop : (t < n → ¬ (l.getD t Ch.Row.zero).k < rk) → wr.ownsRow B 33 3 (.slice (some ⟨g, 0, none⟩) n cap) n (rcells l) → Ch.insAt rk l = t := fun hs _ => Ch.insAt_eq (by have := HL.out; omega) HLow.out (fun h => hs (by have := HL.out; omega))
    have hins : ∀ q, Calls Try.prog 230 #[.slice (some ⟨g, 0, none⟩) n cap, .int .i64 t, .slice (some ⟨wr.heap.size, 0, none⟩) 1 1] ((wr.drewN q).alloc (.cells #[.int .i64 rk, .int .i64 rv, .bool rg] 33)) fun e w' => ∃ g' c', e = .returned (.slice (some ⟨g', 0, none⟩) (n + 1) c') ∧ w'.ownsRow B 33 3 (.slice (some ⟨g', 0, none⟩) (n + 1) c') (n + 1) (rcells (l.take t ++ [⟨rk, rv, rg⟩] ++ l.drop t)) ∧ w.grownBy w' (some g) ∧ (g' = g ∨ w.heap.size ≤ g') := by
      intro q
      have bq : Below w.heap.size w ((wr.drewN q).alloc (.cells #[.int .i64 rk, .int .i64 rv, .bool rg] 33)) := (below_drewN hB1 q).alloc hB1.size _
      refine (insertR_any B g n cap t wr.heap.size (rcells l) (rcells [⟨rk, rv, rg⟩]) _ (owns_below hown bq) (heap_newI rfl) rfl (rcells_one _) (rcells_one _) hn ht (by have := bq.size; omega) (by have := hB1.size; omega)).mono ?_
      rintro e w' ⟨g', c', rfl, own', gr', h'⟩
      refine ⟨g', c', rfl, ?_, gr_chain bq gr', ?_⟩
      · rw [rcells_append, rcells_append, ← rcells_take, ← rcells_drop]; exact own'
      · rcases h' with h' | h'
        · exact .inl h'
        · exact .inr (by have := bq.size; omega)
    by_cases hlt : t < n
    · obtain ⟨b1, o1, he, q0, q1, q2⟩ := (hc.below hB1).row hlt
      simp only [Option.some.injEq, Addr.mk.injEq, and_true] at he
      obtain ⟨rfl, rfl⟩ := he
      have HN := hid (fun h => Ch.insAt_eq (key := rk) (l := l) (t := t) (by have := HL.out; omega) HLow.out (fun _ => h))
      have HY : Hid ((l.getD t Ch.Row.zero).k < rk → ∀ j, j < t + 1 → (l.getD j Ch.Row.zero).k < rk) := fun h j hj => by
        by_cases e : j = t
        · rw [e]; exact h
        · exact HLow.out j (by omega)
      generalize (l.getD t Ch.Row.zero).k = xk at *
      clear q1 q2 HLow hstop
      rw [Nat.zero_add] at q0
      have hit : ((t : Int) < (n : Int)) := by omega
      by_cases hk : xk < rk
      · have hd : decide (xk < rk) = true := by simpa using hk
        have HY' := hid (HY.out hk)
        clear HY HN hins hk
        go_wp2
        go_quiet (fail)
        go_wp2
        go_roundw
        case rel => exact ⟨t + 1, by omega, by go_num, HY'.out, r0, r1, r2, below_drewN hB1 _⟩
        case measure => simp [intOf]; omega
      · have hd : decide (xk < rk) = false := by simpa using hk
        have HN' := hid (HN.out hk)
        clear HY HN hk
        go_wp2
        go_quiet (fail)
        go_wp2_with fail
        refine (hins _).mono ?_
        rintro e w' ⟨g', c', rfl, own', gr', h'⟩
        go_wp2
        go_ret
        rw [HN'.out]
        exact ⟨g', c', rfl, own', gr', h'⟩
    · obtain rfl : t = n := by omega
      have HN := hid (hstop (fun h => absurd h (by omega)) hown1)
      have hd : ¬ ((t : Int) < (t : Int)) := by omega
      clear hstop
      go_wp2
      go_quiet (fail)
      go_wp2_with fail
      refine (hins _).mono ?_
      rintro e w' ⟨g', c', rfl, own', gr', h'⟩
      go_wp2
      go_ret
      rw [HN.out]
      exact ⟨g', c', rfl, own', gr', h'⟩
end Go.Proofs.Ytjagobcogkdfhaa


/- l3Into of the model: a row put into rows. -/
namespace Go.Proofs.Ytjagobcogkdfhaa
open Go.RowKit

set_option maxHeartbeats 8000000 in
theorem specInto_any (a : Option Addr) (n cap : Nat) (l : List Ch.Row) (rk rv : Int) (rg : Bool) (w : World) (h : CellsAt w a (n * 3) (rcells l)) (hn : n ≤ 1048576) :
    Calls Try.prog 203 #[.slice a n cap, .agg #[.int .i64 rk, .int .i64 rv, .bool rg]] w fun e w' => ∃ a' m c', e = .returned (.slice a' m c') ∧ w'.ownsRow w.heap.size 33 3 (.slice a' m c') m (rcells (Ch.into ⟨rk, rv, rg⟩ l)) ∧ Below w.heap.size w w' := by
  have HL := h.rlen
  have bA : ∀ (W : World) o, Below W.heap.size W (W.alloc o) := fun W o => (Below.refl _ _).alloc (Nat.le_refl _) _
  go_enter Try.func203, Try.ntmps203
  go_wp2
  obtain ⟨B, HBe⟩ : ∃ B, Hid (B = w.heap.size + 1) := ⟨_, rfl⟩
  go_loopw [5, 6, 7] (fun q dv i wr => ∃ (t p : Nat) (a2 : Option Addr) (c2 : Nat) (d : Bool) (S : List Ch.Row), t ≤ n ∧ p ≤ t + d.toNat ∧ i = .int .i64 t ∧ dv = .bool d ∧ q = .slice a2 p c2 ∧ Hid (Ch.InSt ⟨rk, rv, rg⟩ l t d S) ∧ wr.ownsRow B 33 3 (.slice a2 p c2) p (rcells S) ∧ Below B (w.alloc (.cells #[.int .i64 rk, .int .i64 rv, .bool rg] 33)) wr) (fun _ _ i _ => n - (intOf i).toNat)
  case atStart =>
    have e := HBe.out
    subst e
    refine ⟨0, 0, _, _, false, [], Nat.zero_le _, by simp, rfl, rfl, rfl, Ch.InSt.start _ _, ?_, ?_⟩
    · have := empty_rows (w.alloc (.cells #[.int .i64 rk, .int .i64 rv, .bool rg] 33)) (w.heap.size + 1) (by simp)
      simpa using this
    · exact (Below.refl _ _).alloc (by simp) _
  case round =>
    obtain ⟨t, p, a2, c2, d, S, ht, hp, rfl, rfl, rfl, st, own, hB⟩ := hrel
    have hBs : B ≤ wr.heap.size := by have := hB.size; have := HBe.out; simp at *; omega
    have hBo : Below (w.alloc (.cells #[.int .i64 rk, .int .i64 rv, .bool rg] 33)).heap.size (w.alloc (.cells #[.int .i64 rk, .int .i64 rv, .bool rg] 33)) wr := by
      have := HBe.out; subst this; simpa using hB
    have r0 := box_cell hBo 0
    have r1 := box_cell hBo 1
    have r2 := box_cell hBo 2
    simp at r0 r1 r2
    have hbw := below_box hBo
    clear hBo
    by_cases hlt : t < n
    · have htl : t < l.length := by have := HL.out; omega
      obtain ⟨b1, o1, rfl, y0, y1, y2⟩ := h.row hlt
      have HLo := hid (fun (e : d = false) => Ch.InSt.low (e ▸ st.out) htl)
      have HSa := hid (fun (e : d = false) => Ch.InSt.same (e ▸ st.out) htl)
      have HHi := hid (fun (e : d = false) => Ch.InSt.high (e ▸ st.out) htl)
      have HOn := hid (fun (e : d = true) => Ch.InSt.on (e ▸ st.out) htl)
      have HOv := hid (fun (e : d = true) => Ch.InSt.over (e ▸ st.out) htl)
      generalize l.getD t Ch.Row.zero = rr at *
      obtain ⟨xk, xv, xg⟩ := rr
      simp only at y0 y1 y2 HLo HSa HHi HOn HOv
      have q0 := keep_cell hbw y0
      have q1 := keep_cell hbw y1
      have q2 := keep_cell hbw y2
      have hit : ((t : Int) < (n : Int)) := by omega
      cases d with
      | false =>
        simp only [Bool.toNat_false, Nat.add_zero] at hp
        have hsum1 : p + 1 ≤ 2097152 := by omega
        have hsum2 : p + 1 + 1 ≤ 2097152 := by omega
        have HLo' := hid (HLo.out rfl)
        have HSa' := hid (HSa.out rfl)
        have HHi' := hid (HHi.out rfl)
        clear HLo HSa HHi HOn HOv st
        rcases Int.lt_trichotomy xk rk with hx | hx | hx
        · have hd : decide (xk ≥ rk) = false := by simp; omega
          have hne : (xk != rk) = true := by simp; omega
          have HS := hid (HLo'.out hx)
          clear HLo' HSa' HHi' hx
          go_wp2
          go_quiet (fail)
          go_wp2
          go_quiet (fail)
          go_wp2_with (at_builtin; go_must (refine wpList_appRs (.tmp 39) (.tmp 44) B (.slice a2 p c2) p S 1 [⟨xk, xv, xg⟩] hsum1 ?_ ?_ ?_ ?_ ?_ ?_ ?_; exact rfl; exact rfl; exact rfl; exact ⟨_, _, rfl, new_row (r := ⟨xk, xv, xg⟩) rfl⟩; exact owns_below own (below_drewN (Below.refl _ _) _ |>.alloc (by simp) _); (focus (simp; omega)); intro a3 c3 w3 own3 b3))
          go_roundw
          case rel => exact ⟨t + 1, p + 1, a3, c3, false, _, by omega, by simp; omega, by go_num, rfl, rfl, HS.out, own3, ((below_drewN hB _).alloc (by simpa using hBs) _).trans b3⟩
          case measure => simp [intOf]; omega
        · have hd : decide (xk ≥ rk) = true := by simp; omega
          have hne : (xk != rk) = false := by simp; omega
          have HS := hid (HSa'.out hx)
          clear HLo' HSa' HHi' hx
          go_wp2
          go_quiet (fail)
          go_wp2_with (at_builtin; go_must (refine wpList_appRs (.tmp 27) (.tmp 29) B (.slice a2 p c2) (p) (S) 1 [⟨rk, rv, rg⟩] hsum1 ?_ ?_ ?_ ?_ ?_ ?_ ?_; exact rfl; exact rfl; exact rfl; exact ⟨_, _, rfl, new_row (r := ⟨rk, rv, rg⟩) rfl⟩; exact owns_below own (below_drewN (Below.refl _ _) _ |>.alloc (by simp) _); (focus (simp; omega)); intro a3 c3 w3 own3 b3))
          have hB3 := ((below_drewN hB _).alloc (by simpa using hBs) _).trans b3
          have hBs3 : B ≤ w3.heap.size := by have := hB3.size; have := HBe.out; simp at *; omega
          have hBo3 : Below (w.alloc (.cells #[.int .i64 rk, .int .i64 rv, .bool rg] 33)).heap.size (w.alloc (.cells #[.int .i64 rk, .int .i64 rv, .bool rg] 33)) w3 := by
            have := HBe.out; subst this; simpa using hB3
          have r0 := box_cell hBo3 0
          have r1 := box_cell hBo3 1
          have r2 := box_cell hBo3 2
          simp at r0 r1 r2
          have hbw3 := below_box hBo3
          clear hBo3
          have q0 := keep_cell hbw3 y0
          have q1 := keep_cell hbw3 y1
          have q2 := keep_cell hbw3 y2
          go_quiet (fail)
          go_wp2
          go_roundw
          case rel => exact ⟨t + 1, p + 1, a3, c3, true, _, by omega, by simp; omega, by go_num, rfl, rfl, HS.out, own3, below_drewN hB3 _⟩
          case measure => simp [intOf]; omega
        · have hd : decide (xk ≥ rk) = true := by simp; omega
          have hne : (xk != rk) = true := by simp; omega
          have HS := hid (HHi'.out hx)
          clear HLo' HSa' HHi' hx
          go_wp2
          go_quiet (fail)
          go_wp2_with (at_builtin; go_must (refine wpList_appRs (.tmp 27) (.tmp 29) B (.slice a2 p c2) (p) (S) 1 [⟨rk, rv, rg⟩] hsum1 ?_ ?_ ?_ ?_ ?_ ?_ ?_; exact rfl; exact rfl; exact rfl; exact ⟨_, _, rfl, new_row (r := ⟨rk, rv, rg⟩) rfl⟩; exact owns_below own (below_drewN (Below.refl _ _) _ |>.alloc (by simp) _); (focus (simp; omega)); intro a3 c3 w3 own3 b3))
          have hB3 := ((below_drewN hB _).alloc (by simpa using hBs) _).trans b3
          have hBs3 : B ≤ w3.heap.size := by have := hB3.size; have := HBe.out; simp at *; omega
          have hBo3 : Below (w.alloc (.cells #[.int .i64 rk, .int .i64 rv, .bool rg] 33)).heap.size (w.alloc (.cells #[.int .i64 rk, .int .i64 rv, .bool rg] 33)) w3 := by
            have := HBe.out; subst this; simpa using hB3
          have r0 := box_cell hBo3 0
          have r1 := box_cell hBo3 1
          have r2 := box_cell hBo3 2
          simp at r0 r1 r2
          have hbw3 := below_box hBo3
          clear hBo3
          have q0 := keep_cell hbw3 y0
          have q1 := keep_cell hbw3 y1
          have q2 := keep_cell hbw3 y2
          go_quiet (fail)
          go_wp2_with (at_builtin; go_must (refine wpList_appRs (.tmp 39) (.tmp 44) B (.slice a3 (p + 1) c3) ((p + 1)) (S ++ [⟨rk, rv, rg⟩]) 1 [⟨xk, xv, xg⟩] hsum2 ?_ ?_ ?_ ?_ ?_ ?_ ?_; exact rfl; exact rfl; exact rfl; exact ⟨_, _, rfl, new_row (r := ⟨xk, xv, xg⟩) rfl⟩; exact owns_below own3 (below_drewN (Below.refl _ _) _ |>.alloc (by simp) _); (focus (simp; omega)); intro a4 c4 w4 own4 b4))
          go_roundw
          case rel => exact ⟨t + 1, p + 1 + 1, a4, c4, true, _, by omega, by simp; omega, by go_num, rfl, rfl, HS.out, own4, ((below_drewN hB3 _).alloc (by simpa using hBs3) _).trans b4⟩
          case measure => simp [intOf]; omega
      | true =>
        simp only [Bool.toNat_true] at hp
        have hsum1 : p + 1 ≤ 2097152 := by omega
        have HOn' := hid (HOn.out rfl)
        have HOv' := hid (HOv.out rfl)
        clear HLo HSa HHi HOn HOv st
        by_cases hx : xk = rk
        · have hne : (xk != rk) = false := by simp; omega
          have HS := hid (HOv'.out hx)
          clear HOn' HOv' hx
          go_wp2
          go_quiet (fail)
          go_wp2
          go_quiet (fail)
          go_wp2
          go_roundw
          case rel => exact ⟨t + 1, p, a2, c2, true, _, by omega, by simp; omega, by go_num, rfl, rfl, HS.out, own, below_drewN hB _⟩
          case measure => simp [intOf]; omega
        · have hne : (xk != rk) = true := by simpa using hx
          have HS := hid (HOn'.out hx)
          clear HOn' HOv' hx
          go_wp2
          go_quiet (fail)
          go_wp2
          go_quiet (fail)
          go_wp2_with (at_builtin; go_must (refine wpList_appRs (.tmp 39) (.tmp 44) B (.slice a2 p c2) (p) (S) 1 [⟨xk, xv, xg⟩] hsum1 ?_ ?_ ?_ ?_ ?_ ?_ ?_; exact rfl; exact rfl; exact rfl; exact ⟨_, _, rfl, new_row (r := ⟨xk, xv, xg⟩) rfl⟩; exact owns_below own (below_drewN (Below.refl _ _) _ |>.alloc (by simp) _); (focus (simp; omega)); intro a3 c3 w3 own3 b3))
          go_roundw
          case rel => exact ⟨t + 1, p + 1, a3, c3, true, _, by omega, by simp; omega, by go_num, rfl, rfl, HS.out, own3, ((below_drewN hB _).alloc (by simpa using hBs) _).trans b3⟩
          case measure => simp [intOf]; omega
    · obtain rfl : t = n := by omega
      have hit : ¬ ((t : Int) < (t : Int)) := by omega
      have HNo := hid (fun (e : d = false) => Ch.InSt.endNo (e ▸ st.out) (by have := HL.out; omega))
      have HYe := hid (fun (e : d = true) => Ch.InSt.endYes (e ▸ st.out) (by have := HL.out; omega))
      have hBw : w.heap.size ≤ B := by have := HBe.out; omega
      cases d with
      | false =>
        simp only [Bool.toNat_false, Nat.add_zero] at hp
        have hsum1 : p + 1 ≤ 2097152 := by omega
        have HN := hid (HNo.out rfl)
        clear HNo HYe st
        go_wp2_with (at_builtin; go_must (refine wpList_appRs (.tmp 48) (.tmp 50) B (.slice a2 p c2) (p) (S) 1 [⟨rk, rv, rg⟩] hsum1 ?_ ?_ ?_ ?_ ?_ ?_ ?_; exact rfl; exact rfl; exact rfl; exact ⟨_, _, rfl, new_row (r := ⟨rk, rv, rg⟩) rfl⟩; exact owns_below own ((Below.refl _ _).alloc (Nat.le_refl _) _); (focus (simp; omega)); intro a3 c3 w3 own3 b3))
        go_ret
        have hBo3 : Below w.heap.size w w3 := ((hbw.alloc hbw.size _)).trans (b3.mono hBw)
        exact ⟨a3, p + 1, c3, rfl, by rw [HN.out]; exact owns_base own3 hBw, hBo3⟩
      | true =>
        have HY := hid (HYe.out rfl)
        clear HNo HYe st
        go_wp2
        go_ret
        exact ⟨a2, p, c2, rfl, by rw [HY.out]; exact owns_base own hBw, hbw⟩
end Go.Proofs.Ytjagobcogkdfhaa


/- l3Copy of the model: leaves copied. -/
namespace Go.Proofs.Ytjagobcogkdfhaa
open Go.RowKit

set_option maxHeartbeats 4000000 in
theorem specCopy_any (a : Option Addr) (n cap : Nat) (ls : List (List Ch.Row)) (w : World) (h : LvAt w a n ls) (hs : Ch.lvSize ls ≤ 1048576) (hg : ∀ k, k < n → (ls.getD k []).length ≠ 0) :
    Calls Try.prog 171 #[.slice a n cap] w fun e w' => ∃ a' c', e = .returned (.slice a' n c') ∧ OwnLv w' w.heap.size (.slice a' n c') n ls ∧ Below w.heap.size w w' := by
  have HL := h.len
  have hn : n ≤ 1048576 := by unfold Ch.lvSize at hs; have := HL.out; omega
  have o0 := empty_leaves w w.heap.size (Nat.le_refl _)
  have O0 : OwnLv (w.alloc (.cells #[] 120)) w.heap.size (.slice (some ⟨w.heap.size, 0, none⟩) 0 0) 0 [] := ⟨rfl, [], o0, fun i hi => absurd hi (by omega), fun i j x y g _ hx => by simp at hx, fun i x g hx => by simp at hx⟩
  clear o0
  go_enter Try.func171, Try.ntmps171
  go_wp2
  go_loopw [3, 4] (fun q i wr => ∃ (k : Nat) (a' : Option Addr) (c' : Nat), k ≤ n ∧ i = .int .i64 k ∧ q = .slice a' k c' ∧ OwnLv wr w.heap.size (.slice a' k c') k (ls.take k) ∧ Below w.heap.size w wr) (fun _ i _ => n - (intOf i).toNat)
  case atStart => exact ⟨0, _, _, Nat.zero_le _, rfl, rfl, by simpa using O0, (Below.refl _ _).alloc (Nat.le_refl _) _⟩
  case round =>
    clear O0
    obtain ⟨k, a', c', hk, rfl, rfl, own, hB⟩ := hrel
    by_cases hlt : k < n
    · have hkl : k < ls.length := by have := HL.out; omega
      have HS := hid (Ch.lv_leaf hs k)
      have HT := hid (Ch.take_snoc ls [] k hkl)
      have hl0 := hg k hlt
      obtain ⟨b, off, ai, ni, ci, rfl, hc, hr, hni⟩ := h.leaf hlt
      have HRl := hr.rlen
      have hni' : ni ≤ 1048576 := by have := HS.out; have := HRl.out; omega
      have hni0 : 0 < ni := by have := HRl.out; omega
      generalize ls.getD k [] = l at *
      generalize ls.take k = DL at *
      clear HS hl0
      have hcr := keep_cell hB hc
      have hrr := hr.below hB
      have hbl := lt_of_cell hcr
      obtain ⟨bi, oi, rfl, _⟩ := hr.2 (by omega)
      have e0 := empty_rows wr wr.heap.size (Nat.le_refl _)
      have bR : Below wr.heap.size wr (wr.alloc (.cells #[] 33)) := (Below.refl _ _).alloc (Nat.le_refl _) _
      have hr1 := hrr.below bR
      obtain ⟨vs, hV⟩ := own.told
      have hoV := hV.2.1
      have hsum : k + 1 ≤ 2097152 := by omega
      have hsum0 : 0 + ni ≤ 2097152 := by omega
      have bA : ∀ (W : World) o, Below W.heap.size W (W.alloc o) := fun W o => (Below.refl _ _).alloc (Nat.le_refl _) _
      have hBs := hB.size
      go_wp2_with (at_builtin; first | (refine wpList_appRs (.tmp 13) (.tmp 18) wr.heap.size (.slice (some ⟨wr.heap.size, 0, none⟩) 0 0) 0 [] ni l hsum0 ?_ ?_ ?_ ?_ ?_ ?_ ?_; exact rfl; exact rfl; exact rfl; exact ⟨_, _, rfl, hr1⟩; exact e0; (focus (simp; done)); intro a2 c2 w2 own2 b2; have b2' := bR.trans b2; have own2' := owns_below hoV b2'; simp only [Nat.zero_add, List.nil_append] at own2) | (go_must (refine wpList_appLv (.tmp 12) (.tmp 21) w.heap.size (.slice a' k c') k vs 1 [.slice a2 ni c2] hsum (by simp [Value.oneCell']) ?_ ?_ ?_ ?_ ?_ ?_ ?_ (by omega); exact rfl; exact rfl; exact rfl; exact ⟨_, _, rfl, one_leaf rfl⟩; exact owns_below own2' (bA _ _); (focus (have := b2'.size; simp; omega)); intro a3 c3 w3 own3 gr3 at3)))
      go_roundw
      case rel =>
        have hbq := hB.trans (b2'.mono hBs)
        refine ⟨k + 1, a3, c3, by omega, by go_num, rfl, ?_, ?_⟩
        · rw [HT.out]
          refine OwnLv.snoc hV b2' ?_ hBs rfl own3 gr3 at3
          have := HRl.out
          rw [← this]
          exact own2
        · refine (hbq.alloc hbq.size _).grown gr3 (by have := hbq.size; simp; omega) ?_
          intro j hj
          exact (owns_lt hoV j hj).1
      case measure => simp [intOf]; omega
    · obtain rfl : k = n := by omega
      go_wp2
      go_ret
      have e1 := HL.out
      rw [List.take_of_length_le (by omega)] at own
      exact ⟨a', c', rfl, own, hB⟩
end Go.Proofs.Ytjagobcogkdfhaa


/- Leaves that are named, not owned; one row as leaves. -/
namespace Go.Proofs.Ytjagobcogkdfhaa
open Go.RowKit

/-- Rows that lie behind a list, apart from the block of v. -/
def RefR (w : World) (v : Value) (ai : Option Addr) (ni : Nat) (l : List Ch.Row) : Prop :=
  CellsAt w ai (ni * 3) (rcells l) ∧ ni ≤ 9223372036854775807 ∧ ∀ b off, ai = some ⟨b, off, none⟩ → b < w.heap.size ∧ v.ownBlock ≠ some b
def RefLv (w : World) (B : Nat) (v : Value) (n : Nat) (vs : List Value) (ls : List (List Ch.Row)) : Prop :=
  ls.length = n ∧ w.ownsRow B 120 1 v n vs ∧ ∀ i, i < n → ∃ ai ni ci, vs[i]? = some (.slice ai ni ci) ∧ RefR w v ai ni (ls.getD i [])

theorem CellsAt.grown {w w' : World} {row : Option Nat} {a : Option Addr} {m : Nat} {xs : List Value} (h : CellsAt w a m xs) (hg : w.grownBy w' row) (hne : ∀ b off, a = some ⟨b, off, none⟩ → row ≠ some b) : CellsAt w' a m xs := by
  refine ⟨h.1, fun hm => ?_⟩
  obtain ⟨b, off, ha, hc⟩ := h.2 hm
  refine ⟨b, off, ha, fun i hi => ?_⟩
  have := hc i hi
  have hx : xs[i]? = some (xs[i]'(by rw [h.1]; exact hi)) := by simp
  rw [hx] at this ⊢
  exact grown_cell hg this (hne b off ha)
theorem RefR.move {w W w2 : World} {v v' : Value} {ai : Option Addr} {ni : Nat} {l : List Ch.Row} (h : RefR w v ai ni l) (hb : Below w.heap.size w W) (hg : W.grownBy w2 v.ownBlock) (hat : ∀ g, v'.ownBlock = some g → v.ownBlock = some g ∨ W.heap.size ≤ g) : RefR w2 v' ai ni l := by
  obtain ⟨h1, h2, h3⟩ := h
  refine ⟨(h1.below hb).grown hg (fun b off e => (h3 b off e).2), h2, fun b off e => ⟨?_, fun hv => ?_⟩⟩
  · have := (h3 b off e).1
    have := hb.size
    have := hg.size
    omega
  · have h4 := (h3 b off e).1
    have := hb.size
    rcases hat b hv with h5 | h5
    · exact (h3 b off e).2 h5
    · omega
theorem RefLv.at {w : World} {B : Nat} {a : Option Addr} {n cap : Nat} {vs : List Value} {ls : List (List Ch.Row)} (h : RefLv w B (.slice a n cap) n vs ls) : LvAt w a n ls := by
  obtain ⟨hl, ho, hi⟩ := h
  have hc := owns_cells ho
  rw [Nat.mul_one] at hc
  refine ⟨hl, vs, hc, fun i hlt => ?_⟩
  obtain ⟨ai, ni, ci, h1, h2⟩ := hi i hlt
  exact ⟨ai, ni, ci, h1, h2.1, h2.2.1⟩
theorem RefLv.app {w0 W w2 : World} {B n m : Nat} {v v' : Value} {vs xs : List Value} {ls nl : List (List Ch.Row)} (h : RefLv w0 B v n vs ls) (hb : Below w0.heap.size w0 W)
    (hl : nl.length = xs.length) (hm : m = n + xs.length) (hx : ∀ i, i < xs.length → ∃ w1 ai ni ci, xs[i]? = some (.slice ai ni ci) ∧ Below w1.heap.size w1 W ∧ RefR w1 v ai ni (nl.getD i []))
    (h2 : w2.ownsRow B 120 1 v' m (vs ++ xs)) (hg : W.grownBy w2 v.ownBlock) (hat : ∀ g, v'.ownBlock = some g → v.ownBlock = some g ∨ W.heap.size ≤ g) : RefLv w2 B v' m (vs ++ xs) (ls ++ nl) := by
  subst hm
  obtain ⟨hll, ho, hi⟩ := h
  have hvl : vs.length = n := by have := ho.1; omega
  refine ⟨by simp [hll, hl], h2, fun i hlt => ?_⟩
  by_cases hin : i < n
  · obtain ⟨ai, ni, ci, h1, h3⟩ := hi i hin
    refine ⟨ai, ni, ci, by rw [List.getElem?_append_left (by omega)]; exact h1, ?_⟩
    have e : (ls ++ nl).getD i [] = ls.getD i [] := by simp [List.getD, List.getElem?_append_left (show i < ls.length by omega)]
    rw [e]
    exact h3.move hb hg hat
  · obtain ⟨w1, ai, ni, ci, h1, hb1, h3⟩ := hx (i - n) (by omega)
    refine ⟨ai, ni, ci, by rw [List.getElem?_append_right (by omega), hvl]; exact h1, ?_⟩
    have e : (ls ++ nl).getD i [] = nl.getD (i - n) [] := by
      simp only [List.getD]
      rw [List.getElem?_append_right (by omega), hll]
    rw [e]
    exact h3.move hb1 hg hat
theorem CellsAt.cutL {w : World} {g o n k : Nat} {l : List Ch.Row} (h : CellsAt w (some ⟨g, o, none⟩) (n * 3) (rcells l)) (hk : k ≤ n) : CellsAt w (some ⟨g, o, none⟩) (k * 3) (rcells (l.take k)) := by
  have hl := h.rlen.out
  refine ⟨by rw [rcells_len]; simp; omega, fun hm => ?_⟩
  obtain ⟨b, off, ha, hc⟩ := h.2 (by omega)
  refine ⟨b, off, ha, fun i hi => ?_⟩
  rw [hc i (by omega), ← rcells_take, List.getElem?_take, if_pos hi]
theorem CellsAt.cutR {w : World} {g o n k : Nat} {l : List Ch.Row} (h : CellsAt w (some ⟨g, o, none⟩) (n * 3) (rcells l)) (hk : k ≤ n) : CellsAt w (some ⟨g, o + k * 3, none⟩) ((n - k) * 3) (rcells (l.drop k)) := by
  have hl := h.rlen.out
  refine ⟨by rw [rcells_len]; simp; omega, fun hm => ?_⟩
  obtain ⟨b, off, ha, hc⟩ := h.2 (by omega)
  simp only [Option.some.injEq, Addr.mk.injEq, and_true] at ha
  obtain ⟨rfl, rfl⟩ := ha
  refine ⟨g, o + k * 3, rfl, fun i hi => ?_⟩
  rw [show o + k * 3 + i = o + (k * 3 + i) by omega, hc (k * 3 + i) (by omega), ← rcells_drop, List.getElem?_drop]
theorem two_leaves {w : World} {x y : Value} {t : TypeId} {H : Nat} (hH : H = w.heap.size) : CellsAt (w.alloc (.cells #[x, y] t)) (some ⟨H, 0, none⟩) 2 [x, y] := by
  subst hH
  refine ⟨rfl, fun _ => ⟨_, _, rfl, fun i hi => ?_⟩⟩
  rw [Nat.zero_add]
  have := cell_of_row (w.alloc (.cells #[x, y] t)) _ i _ _ _ (heap_alloc_new w _)
  rw [this]
  simp
/-- One leaf of one row. -/
theorem one_put (W : World) (B : Nat) (rk rv : Int) (rg : Bool) (hB : B ≤ W.heap.size) : OwnLv ((W.alloc (.cells #[.int .i64 rk, .int .i64 rv, .bool rg] 33)).alloc (.cells #[.slice (some ⟨W.heap.size, 0, none⟩) 1 1] 120)) B (.slice (some ⟨W.heap.size + 1, 0, none⟩) 1 1) 1 [[⟨rk, rv, rg⟩]] := by
  have o1 : (W.alloc (.cells #[.int .i64 rk, .int .i64 rv, .bool rg] 33)).ownsRow B 33 3 (.slice (some ⟨W.heap.size, 0, none⟩) 1 1) 1 (rcells [⟨rk, rv, rg⟩]) := World.ownsRow_lit W #[.int .i64 rk, .int .i64 rv, .bool rg] 1 hB (by unfold maxLen; omega) rfl
  have o2 := World.ownsRow_lit (base := B) (e := 120) (size := 1) (W.alloc (.cells #[.int .i64 rk, .int .i64 rv, .bool rg] 33)) #[.slice (some ⟨W.heap.size, 0, none⟩) 1 1] 1 (by simp; omega) (by unfold maxLen; omega) rfl
  rw [show (W.alloc (.cells #[.int .i64 rk, .int .i64 rv, .bool rg] 33)).heap.size = W.heap.size + 1 by simp] at o2
  refine ⟨rfl, [.slice (some ⟨W.heap.size, 0, none⟩) 1 1], o2, fun i hi => ?_, ?_, ?_⟩
  · obtain rfl : i = 0 := by omega
    exact ⟨_, rfl, owns_below o1 ((Below.refl _ _).alloc (Nat.le_refl _) _)⟩
  · intro i j x y g hij hx hy
    have : j < 1 := by
      rcases Nat.lt_or_ge j 1 with h | h
      · exact h
      · rw [List.getElem?_eq_none (by simpa using h)] at hy; cases hy
    omega
  · intro i x g hx hv
    have : i = 0 := by
      rcases Nat.lt_or_ge i 1 with h | h
      · omega
      · rw [List.getElem?_eq_none (by simpa using h)] at hx; cases hx
    subst this
    simp at hx
    subst hx
    simp [Value.ownBlock] at hv ⊢
    omega
end Go.Proofs.Ytjagobcogkdfhaa

