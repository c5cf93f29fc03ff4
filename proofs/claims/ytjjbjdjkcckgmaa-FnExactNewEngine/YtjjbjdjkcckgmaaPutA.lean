
/- insertRow of the program: a row put in between. -/
import Derived.Test.YtjjbjdjkcckgmaaInsG
import Derived.Test.YtjjbjdjkcckgmaaPutM
import Derived.Test.YtjjbjdjkcckgmaaDropI
import Derived.BigQuiet
namespace Go.Proofs.Ytjjbjdjkcckgmaa
open Go.RowKit

theorem gr_chain {w W w' : World} {row : Option Nat} (hb : Below w.heap.size w W) (h : W.grownBy w' row) : w.grownBy w' row :=
  ⟨h.os.trans hb.os, h.tape.trans hb.tape, h.output.trans hb.output, Nat.le_trans hb.size h.size, fun k hk hne => (h.block k (Nat.lt_of_lt_of_le hk hb.size) hne).trans (hb.block k hk)⟩
theorem rcells_take (l : List Ch.Row) (i : Nat) : (rcells l).take (i * 3) = rcells (l.take i) := by
  by_cases h : i ≤ l.length
  · conv => lhs; rw [← List.take_append_drop i l, rcells_append]
    exact List.take_left' (by rw [rcells_len]; simp; omega)
  · rw [List.take_of_length_le (by rw [rcells_len]; omega), List.take_of_length_le (by omega)]
theorem rcells_drop (l : List Ch.Row) (i : Nat) : (rcells l).drop (i * 3) = rcells (l.drop i) := by
  by_cases h : i ≤ l.length
  · conv => lhs; rw [← List.take_append_drop i l, rcells_append]
    exact List.drop_left' (by rw [rcells_len]; simp; omega)
  · rw [List.drop_of_length_le (by rw [rcells_len]; omega), List.drop_of_length_le (by omega)]; rfl

set_option maxHeartbeats 4000000 in
theorem insertRow_any (B g n cap : Nat) (l : List Ch.Row) (rk rv : Int) (rg : Bool) (w : World) (hown : w.ownsRow B 49 3 (.slice (some ⟨g, 0, none⟩) n cap) n (rcells l)) (hn : n ≤ 1048576) (hB : B ≤ w.heap.size) :
    Calls Try.prog 37 #[.slice (some ⟨g, 0, none⟩) n cap, .agg #[.int .i64 rk, .int .i64 rv, .bool rg]] w fun e w' => ∃ g' c', e = .returned (.slice (some ⟨g', 0, none⟩) (n + 1) c') ∧ w'.ownsRow B 49 3 (.slice (some ⟨g', 0, none⟩) (n + 1) c') (n + 1) (rcells (l.take (Ch.insAt rk l) ++ [⟨rk, rv, rg⟩] ++ l.drop (Ch.insAt rk l))) ∧ w.grownBy w' (some g) ∧ (g' = g ∨ w.heap.size ≤ g') := by
  have hc := owns_cells hown
  have HL := hc.rlen
  have hgl : g < w.heap.size := (owns_lt hown g rfl).2
  have b0 : ∀ t, Below w.heap.size w (w.alloc (.cells #[.int .i64 rk, .int .i64 rv, .bool rg] t)) := fun t => (Below.refl _ _).alloc (Nat.le_refl _) _
  go_enter Try.func37, Try.ntmps37
  go_wp2
  go_loopw [5] (fun i wr => ∃ t : Nat, t ≤ n ∧ i = .int .i64 t ∧ (∀ j, j < t → (l.getD j Ch.Row.zero).k < rk) ∧ wr.cell? ⟨w.heap.size, 0, none⟩ = some (.int .i64 rk) ∧ wr.cell? ⟨w.heap.size, 1, none⟩ = some (.int .i64 rv) ∧ wr.cell? ⟨w.heap.size, 2, none⟩ = some (.bool rg) ∧ Below w.heap.size w wr) (fun i _ => n - (intOf i).toNat)
  case atStart => exact ⟨0, Nat.zero_le _, rfl, fun j hj => absurd hj (by omega), by simp [go_sem], by simp [go_sem], by simp [go_sem], b0 _⟩
  case round =>
    obtain ⟨t, ht, rfl, hlow, r0, r1, r2, hB1⟩ := hrel
    have HLow := hid hlow
    clear hlow
    have hown1 := owns_below hown hB1
    have hstop : (t < n → ¬ (l.getD t Ch.Row.zero).k < rk) → wr.ownsRow B 49 3 (.slice (some ⟨g, 0, none⟩) n cap) n (rcells l) → Ch.insAt rk l = t := fun hs _ => Ch.insAt_eq (by have := HL.out; omega) HLow.out (fun h => hs (by have := HL.out; omega))
    have hins : ∀ q, Calls Try.prog 68 #[.slice (some ⟨g, 0, none⟩) n cap, .int .i64 t, .slice (some ⟨wr.heap.size, 0, none⟩) 1 1] ((wr.drewN q).alloc (.cells #[.int .i64 rk, .int .i64 rv, .bool rg] 49)) fun e w' => ∃ g' c', e = .returned (.slice (some ⟨g', 0, none⟩) (n + 1) c') ∧ w'.ownsRow B 49 3 (.slice (some ⟨g', 0, none⟩) (n + 1) c') (n + 1) (rcells (l.take t ++ [⟨rk, rv, rg⟩] ++ l.drop t)) ∧ w.grownBy w' (some g) ∧ (g' = g ∨ w.heap.size ≤ g') := by
      intro q
      have bq : Below w.heap.size w ((wr.drewN q).alloc (.cells #[.int .i64 rk, .int .i64 rv, .bool rg] 49)) := (below_drewN hB1 q).alloc hB1.size _
      refine (insertR_any B g n cap t wr.heap.size (rcells l) (rcells [⟨rk, rv, rg⟩]) _ (owns_below hown bq) (heap_newI rfl) rfl (rcells_one _) (rcells_one _) hn ht (by have := bq.size; omega) (by have := hB1.size; omega)).mono ?_
      rintro e w' ⟨g', c', rfl, own', gr', h'⟩
      refine ⟨g', c', rfl, ?_, gr_chain bq gr', ?_⟩
      · rw [rcells_append, rcells_append, ← rcells_take, ← rcells_drop]; exact own'
      · rcases h' with h' | h'
        · exact .inl h'
        · exact .inr (by have := bq.size; omega)
    by_cases hlt : t < n
    · obtain ⟨b1, o1, he, q0, q1, q2⟩ := (hc.below hB1).row hlt
      simp only [Option.some.injEq, Addr.mk.injEq, and_true] at he
      obtain ⟨rfl, rfl⟩ := he
      have HN := hid (fun h => Ch.insAt_eq (key := rk) (l := l) (t := t) (by have := HL.out; omega) HLow.out (fun _ => h))
      have HY : Hid ((l.getD t Ch.Row.zero).k < rk → ∀ j, j < t + 1 → (l.getD j Ch.Row.zero).k < rk) := fun h j hj => by
        by_cases e : j = t
        · rw [e]; exact h
        · exact HLow.out j (by omega)
      generalize (l.getD t Ch.Row.zero).k = xk at *
      clear q1 q2 HLow hstop
      rw [Nat.zero_add] at q0
      have hit : ((t : Int) < (n : Int)) := by omega
      by_cases hk : xk < rk
      · have hd : decide (xk < rk) = true := by simpa using hk
        have HY' := hid (HY.out hk)
        clear HY HN hins hk
        go_wp2
        go_quiet (fail)
        go_wp2
        go_roundw
        case rel => exact ⟨t + 1, by omega, by go_num, HY'.out, r0, r1, r2, below_drewN hB1 _⟩
        case measure => simp [intOf]; omega
      · have hd : decide (xk < rk) = false := by simpa using hk
        have HN' := hid (HN.out hk)
        clear HY HN hk
        go_wp2
        go_quiet (fail)
        go_wp2_with fail
        refine (hins _).mono ?_
        rintro e w' ⟨g', c', rfl, own', gr', h'⟩
        go_wp2
        go_ret
        rw [HN'.out]
        exact ⟨g', c', rfl, own', gr', h'⟩
    · obtain rfl : t = n := by omega
      have HN := hid (hstop (fun h => absurd h (by omega)) hown1)
      have hd : ¬ ((t : Int) < (t : Int)) := by omega
      clear hstop
      go_wp2
      go_quiet (fail)
      go_wp2_with fail
      refine (hins _).mono ?_
      rintro e w' ⟨g', c', rfl, own', gr', h'⟩
      go_wp2
      go_ret
      rw [HN.out]
      exact ⟨g', c', rfl, own', gr', h'⟩
end Go.Proofs.Ytjjbjdjkcckgmaa
