/- Several texts in one: DropS, FindI, ResL, DropI, PutA, PutB, RdH. -/
import Derived.Test.YtlpncikiaojmiaaDropM
import Derived.Test.YtlpncikiaojmiaaFindW
import Derived.Test.YtlpncikiaojmiaaMz0
import Derived.Test.YtlpncikiaojmiaaForW
import Derived.Deep.Cut
import Derived.Test.YtlpncikiaojmiaaPutM
import Derived.BigQuiet
import Derived.Test.YtlpncikiaojmiaaRdM


/- DropRow of the model. -/
namespace Go.Proofs.Ytlpncikiaojmiaa
open Go.RowKit Go.Maps

theorem one_leaf {w : World} {x : Value} {t : TypeId} {H : Nat} (hH : H = w.heap.size) : CellsAt (w.alloc (.cells #[x] t)) (some ⟨H, 0, none⟩) 1 [x] := by
  subst hH
  refine ⟨rfl, fun _ => ⟨_, _, rfl, fun i hi => ?_⟩⟩
  rw [Nat.zero_add]
  have := cell_of_row (w.alloc (.cells #[x] t)) _ i _ _ _ (heap_alloc_new w _)
  rw [this]
  simp

theorem Ch.filter_yes {key : Int} {l : List Ch.Row} {k : Nat} (h : k < l.length) (hin : ¬ (l.getD k Row.zero).k = key) : (l.take (k + 1)).filter (notK key) = (l.take k).filter (notK key) ++ [l.getD k Row.zero] := by
  rw [take_snoc l Row.zero k h]; generalize l.getD k Row.zero = r at *; rw [List.filter_append]; simp [notK, hin]
theorem Ch.filter_no {key : Int} {l : List Ch.Row} {k : Nat} (h : k < l.length) (hin : (l.getD k Row.zero).k = key) : (l.take (k + 1)).filter (notK key) = (l.take k).filter (notK key) := by
  rw [take_snoc l Row.zero k h]; generalize l.getD k Row.zero = r at *; rw [List.filter_append]; simp [notK, hin]

end Go.Proofs.Ytlpncikiaojmiaa


/- FindRow of the program. -/
namespace Go.Proofs.Ytlpncikiaojmiaa
open Go.RowKit Go.Maps

theorem Pl.none {ls : List (List Ch.Row)} {D : DataW Unit} {key : Int} (h : Pl ls D ls.length 0) (hf : Ch.findR ls key = none) : Maps.has D (kk key) = false ∧ D.atKey (kk key) (pl 0 0) = pl 0 0 := by
  have hh : Maps.has D (kk key) = false := by
    cases hb : Maps.has D (kk key)
    · rfl
    · obtain ⟨i, j, hi, hj, he⟩ := h.no key hb
      exact absurd he (Ch.find_none hf i j hi hj)
  exact ⟨hh, atKey_of_not_has hh _⟩
theorem Pl.some {ls : List (List Ch.Row)} {D : DataW Unit} {key : Int} {r : Ch.Row} (h : Pl ls D ls.length 0) (hf : Ch.findR ls key = some r) : ∃ i j, i < ls.length ∧ j < (ls.getD i []).length ∧ Ch.rowAt ls i j = r ∧ r.k = key ∧ Maps.has D (kk key) = true ∧ D.atKey (kk key) (pl 0 0) = pl i j := by
  obtain ⟨i, j, hi, hj, hr, hk⟩ := Ch.find_some hf
  have := h.yes i j (.inl hi) hi hj
  have e : Ch.keyAt ls i j = key := by unfold Ch.keyAt; rw [hr]; exact hk
  rw [e] at this
  exact ⟨i, j, hi, hj, hr, hk, this.1, this.2 _⟩
theorem inB_key {key : Int} (h : Ch.inB key 0 99 = true) : 0 ≤ key ∧ key ≤ 99 := by
  unfold Ch.inB at h
  simpa using h

end Go.Proofs.Ytlpncikiaojmiaa


/- Results that are leaves: comparisons, marks. -/
namespace Go.Proofs.Ytlpncikiaojmiaa
open Go.RowKit

theorem lvMarks_at (ls : List (List Ch.Row)) (k : Nat) (h : k < ls.length) : (lvMarks ls).getD k [] = lvMark ls k := by
  simp [lvMarks, List.getD, h]
theorem lvMarks_len (ls : List (List Ch.Row)) : (lvMarks ls).length = ls.length := by simp [lvMarks]
theorem lvMark_len (ls : List (List Ch.Row)) (k : Nat) : (lvMark ls k).length = (ls.getD k []).length := by simp [lvMark, rmarks_len]

end Go.Proofs.Ytlpncikiaojmiaa


/- DropRow of the model and of the program. -/
namespace Go.Proofs.Ytlpncikiaojmiaa
open Go.RowKit Go.Maps

theorem owns_set {w : World} {base : Nat} {e : TypeId} {size : Nat} {v : Value} {n : Nat} {xs : List Value} (h : w.ownsRow base e size v n xs) {p o : Nat} (hne : ∀ g, v.ownBlock = some g → g ≠ p) (u : Value) : (w.setCell ⟨p, o, none⟩ u).ownsRow base e size v n xs := by
  refine ⟨h.1, ?_⟩
  rcases h.2 with h' | ⟨g, cap, cur, hv, hb, hh, h1, h2, h3, h4⟩
  · exact .inl h'
  · refine .inr ⟨g, cap, cur, hv, hb, ?_, h1, h2, h3, h4⟩
    rw [Below.heap_setCell _ _ _ _ (hne g (by rw [hv]; rfl))]; exact hh
theorem rcells_split (l : List Ch.Row) (j : Nat) (h : j < l.length) : rcells l = rcells (l.take j) ++ rcells [l.getD j Ch.Row.zero] ++ rcells (l.drop (j + 1)) := by
  rw [← rcells_append, ← rcells_append]
  congr 1
  conv => lhs; rw [Ch.split_at l Ch.Row.zero j h]
  simp
end Go.Proofs.Ytlpncikiaojmiaa


/- insertRow of the program: a row put in between. -/
namespace Go.Proofs.Ytlpncikiaojmiaa
open Go.RowKit

theorem gr_chain {w W w' : World} {row : Option Nat} (hb : Below w.heap.size w W) (h : W.grownBy w' row) : w.grownBy w' row :=
  ⟨h.os.trans hb.os, h.tape.trans hb.tape, h.output.trans hb.output, Nat.le_trans hb.size h.size, fun k hk hne => (h.block k (Nat.lt_of_lt_of_le hk hb.size) hne).trans (hb.block k hk)⟩
theorem rcells_take (l : List Ch.Row) (i : Nat) : (rcells l).take (i * 3) = rcells (l.take i) := by
  by_cases h : i ≤ l.length
  · conv => lhs; rw [← List.take_append_drop i l, rcells_append]
    exact List.take_left' (by rw [rcells_len]; simp; omega)
  · rw [List.take_of_length_le (by rw [rcells_len]; omega), List.take_of_length_le (by omega)]
theorem rcells_drop (l : List Ch.Row) (i : Nat) : (rcells l).drop (i * 3) = rcells (l.drop i) := by
  by_cases h : i ≤ l.length
  · conv => lhs; rw [← List.take_append_drop i l, rcells_append]
    exact List.drop_left' (by rw [rcells_len]; simp; omega)
  · rw [List.drop_of_length_le (by rw [rcells_len]; omega), List.drop_of_length_le (by omega)]; rfl

end Go.Proofs.Ytlpncikiaojmiaa


/- l3Into of the model: a row put into rows. -/
namespace Go.Proofs.Ytlpncikiaojmiaa
open Go.RowKit

set_option maxHeartbeats 8000000 in
theorem specInto_any (a : Option Addr) (n cap : Nat) (l : List Ch.Row) (rk rv : Int) (rg : Bool) (w : World) (h : CellsAt w a (n * 3) (rcells l)) (hn : n ≤ 1048576) :
    Calls Try.prog 87 #[.slice a n cap, .agg #[.int .i64 rk, .int .i64 rv, .bool rg]] w fun e w' => ∃ a' m c', e = .returned (.slice a' m c') ∧ w'.ownsRow w.heap.size 64 3 (.slice a' m c') m (rcells (Ch.into ⟨rk, rv, rg⟩ l)) ∧ Below w.heap.size w w' := by
  have HL := h.rlen
  have bA : ∀ (W : World) o, Below W.heap.size W (W.alloc o) := fun W o => (Below.refl _ _).alloc (Nat.le_refl _) _
  go_enter Try.func87, Try.ntmps87
  go_wp2
  obtain ⟨B, HBe⟩ : ∃ B, Hid (B = w.heap.size + 1) := ⟨_, rfl⟩
  go_loopw [5, 6, 7] (fun q dv i wr => ∃ (t p : Nat) (a2 : Option Addr) (c2 : Nat) (d : Bool) (S : List Ch.Row), t ≤ n ∧ p ≤ t + d.toNat ∧ i = .int .i64 t ∧ dv = .bool d ∧ q = .slice a2 p c2 ∧ Hid (Ch.InSt ⟨rk, rv, rg⟩ l t d S) ∧ wr.ownsRow B 64 3 (.slice a2 p c2) p (rcells S) ∧ Below B (w.alloc (.cells #[.int .i64 rk, .int .i64 rv, .bool rg] 64)) wr) (fun _ _ i _ => n - (intOf i).toNat)
  case atStart =>
    have e := HBe.out
    subst e
    refine ⟨0, 0, _, _, false, [], Nat.zero_le _, by simp, rfl, rfl, rfl, Ch.InSt.start _ _, ?_, ?_⟩
    · have := empty_rows (w.alloc (.cells #[.int .i64 rk, .int .i64 rv, .bool rg] 64)) (w.heap.size + 1) (by simp)
      simpa using this
    · exact (Below.refl _ _).alloc (by simp) _
  case round =>
    obtain ⟨t, p, a2, c2, d, S, ht, hp, rfl, rfl, rfl, st, own, hB⟩ := hrel
    have hBs : B ≤ wr.heap.size := by have := hB.size; have := HBe.out; simp at *; omega
    have hBo : Below (w.alloc (.cells #[.int .i64 rk, .int .i64 rv, .bool rg] 64)).heap.size (w.alloc (.cells #[.int .i64 rk, .int .i64 rv, .bool rg] 64)) wr := by
      have := HBe.out; subst this; simpa using hB
    have r0 := box_cell hBo 0
    have r1 := box_cell hBo 1
    have r2 := box_cell hBo 2
    simp at r0 r1 r2
    have hbw := below_box hBo
    clear hBo
    by_cases hlt : t < n
    · have htl : t < l.length := by have := HL.out; omega
      obtain ⟨b1, o1, rfl, y0, y1, y2⟩ := h.row hlt
      have HLo := hid (fun (e : d = false) => Ch.InSt.low (e ▸ st.out) htl)
      have HSa := hid (fun (e : d = false) => Ch.InSt.same (e ▸ st.out) htl)
      have HHi := hid (fun (e : d = false) => Ch.InSt.high (e ▸ st.out) htl)
      have HOn := hid (fun (e : d = true) => Ch.InSt.on (e ▸ st.out) htl)
      have HOv := hid (fun (e : d = true) => Ch.InSt.over (e ▸ st.out) htl)
      generalize l.getD t Ch.Row.zero = rr at *
      obtain ⟨xk, xv, xg⟩ := rr
      simp only at y0 y1 y2 HLo HSa HHi HOn HOv
      have q0 := keep_cell hbw y0
      have q1 := keep_cell hbw y1
      have q2 := keep_cell hbw y2
      have hit : ((t : Int) < (n : Int)) := by omega
      cases d with
      | false =>
        simp only [Bool.toNat_false, Nat.add_zero] at hp
        have hsum1 : p + 1 ≤ 2097152 := by omega
        have hsum2 : p + 1 + 1 ≤ 2097152 := by omega
        have HLo' := hid (HLo.out rfl)
        have HSa' := hid (HSa.out rfl)
        have HHi' := hid (HHi.out rfl)
        clear HLo HSa HHi HOn HOv st
        rcases Int.lt_trichotomy xk rk with hx | hx | hx
        · have hd : decide (xk ≥ rk) = false := by simp; omega
          have hne : (xk != rk) = true := by simp; omega
          have HS := hid (HLo'.out hx)
          clear HLo' HSa' HHi' hx
          go_wp2
          go_quiet (fail)
          go_wp2
          go_quiet (fail)
          go_wp2_with (at_builtin; go_must (refine wpList_appRs (.tmp 39) (.tmp 44) B (.slice a2 p c2) p S 1 [⟨xk, xv, xg⟩] hsum1 ?_ ?_ ?_ ?_ ?_ ?_ ?_; exact rfl; exact rfl; exact rfl; exact ⟨_, _, rfl, new_row (r := ⟨xk, xv, xg⟩) rfl⟩; exact owns_below own (below_drewN (Below.refl _ _) _ |>.alloc (by simp) _); (focus (simp; omega)); intro a3 c3 w3 own3 b3))
          go_roundw
          case rel => exact ⟨t + 1, p + 1, a3, c3, false, _, by omega, by simp; omega, by go_num, rfl, rfl, HS.out, own3, ((below_drewN hB _).alloc (by simpa using hBs) _).trans b3⟩
          case measure => simp [intOf]; omega
        · have hd : decide (xk ≥ rk) = true := by simp; omega
          have hne : (xk != rk) = false := by simp; omega
          have HS := hid (HSa'.out hx)
          clear HLo' HSa' HHi' hx
          go_wp2
          go_quiet (fail)
          go_wp2_with (at_builtin; go_must (refine wpList_appRs (.tmp 27) (.tmp 29) B (.slice a2 p c2) (p) (S) 1 [⟨rk, rv, rg⟩] hsum1 ?_ ?_ ?_ ?_ ?_ ?_ ?_; exact rfl; exact rfl; exact rfl; exact ⟨_, _, rfl, new_row (r := ⟨rk, rv, rg⟩) rfl⟩; exact owns_below own (below_drewN (Below.refl _ _) _ |>.alloc (by simp) _); (focus (simp; omega)); intro a3 c3 w3 own3 b3))
          have hB3 := ((below_drewN hB _).alloc (by simpa using hBs) _).trans b3
          have hBs3 : B ≤ w3.heap.size := by have := hB3.size; have := HBe.out; simp at *; omega
          have hBo3 : Below (w.alloc (.cells #[.int .i64 rk, .int .i64 rv, .bool rg] 64)).heap.size (w.alloc (.cells #[.int .i64 rk, .int .i64 rv, .bool rg] 64)) w3 := by
            have := HBe.out; subst this; simpa using hB3
          have r0 := box_cell hBo3 0
          have r1 := box_cell hBo3 1
          have r2 := box_cell hBo3 2
          simp at r0 r1 r2
          have hbw3 := below_box hBo3
          clear hBo3
          have q0 := keep_cell hbw3 y0
          have q1 := keep_cell hbw3 y1
          have q2 := keep_cell hbw3 y2
          go_quiet (fail)
          go_wp2
          go_roundw
          case rel => exact ⟨t + 1, p + 1, a3, c3, true, _, by omega, by simp; omega, by go_num, rfl, rfl, HS.out, own3, below_drewN hB3 _⟩
          case measure => simp [intOf]; omega
        · have hd : decide (xk ≥ rk) = true := by simp; omega
          have hne : (xk != rk) = true := by simp; omega
          have HS := hid (HHi'.out hx)
          clear HLo' HSa' HHi' hx
          go_wp2
          go_quiet (fail)
          go_wp2_with (at_builtin; go_must (refine wpList_appRs (.tmp 27) (.tmp 29) B (.slice a2 p c2) (p) (S) 1 [⟨rk, rv, rg⟩] hsum1 ?_ ?_ ?_ ?_ ?_ ?_ ?_; exact rfl; exact rfl; exact rfl; exact ⟨_, _, rfl, new_row (r := ⟨rk, rv, rg⟩) rfl⟩; exact owns_below own (below_drewN (Below.refl _ _) _ |>.alloc (by simp) _); (focus (simp; omega)); intro a3 c3 w3 own3 b3))
          have hB3 := ((below_drewN hB _).alloc (by simpa using hBs) _).trans b3
          have hBs3 : B ≤ w3.heap.size := by have := hB3.size; have := HBe.out; simp at *; omega
          have hBo3 : Below (w.alloc (.cells #[.int .i64 rk, .int .i64 rv, .bool rg] 64)).heap.size (w.alloc (.cells #[.int .i64 rk, .int .i64 rv, .bool rg] 64)) w3 := by
            have := HBe.out; subst this; simpa using hB3
          have r0 := box_cell hBo3 0
          have r1 := box_cell hBo3 1
          have r2 := box_cell hBo3 2
          simp at r0 r1 r2
          have hbw3 := below_box hBo3
          clear hBo3
          have q0 := keep_cell hbw3 y0
          have q1 := keep_cell hbw3 y1
          have q2 := keep_cell hbw3 y2
          go_quiet (fail)
          go_wp2_with (at_builtin; go_must (refine wpList_appRs (.tmp 39) (.tmp 44) B (.slice a3 (p + 1) c3) ((p + 1)) (S ++ [⟨rk, rv, rg⟩]) 1 [⟨xk, xv, xg⟩] hsum2 ?_ ?_ ?_ ?_ ?_ ?_ ?_; exact rfl; exact rfl; exact rfl; exact ⟨_, _, rfl, new_row (r := ⟨xk, xv, xg⟩) rfl⟩; exact owns_below own3 (below_drewN (Below.refl _ _) _ |>.alloc (by simp) _); (focus (simp; omega)); intro a4 c4 w4 own4 b4))
          go_roundw
          case rel => exact ⟨t + 1, p + 1 + 1, a4, c4, true, _, by omega, by simp; omega, by go_num, rfl, rfl, HS.out, own4, ((below_drewN hB3 _).alloc (by simpa using hBs3) _).trans b4⟩
          case measure => simp [intOf]; omega
      | true =>
        simp only [Bool.toNat_true] at hp
        have hsum1 : p + 1 ≤ 2097152 := by omega
        have HOn' := hid (HOn.out rfl)
        have HOv' := hid (HOv.out rfl)
        clear HLo HSa HHi HOn HOv st
        by_cases hx : xk = rk
        · have hne : (xk != rk) = false := by simp; omega
          have HS := hid (HOv'.out hx)
          clear HOn' HOv' hx
          go_wp2
          go_quiet (fail)
          go_wp2
          go_quiet (fail)
          go_wp2
          go_roundw
          case rel => exact ⟨t + 1, p, a2, c2, true, _, by omega, by simp; omega, by go_num, rfl, rfl, HS.out, own, below_drewN hB _⟩
          case measure => simp [intOf]; omega
        · have hne : (xk != rk) = true := by simpa using hx
          have HS := hid (HOn'.out hx)
          clear HOn' HOv' hx
          go_wp2
          go_quiet (fail)
          go_wp2
          go_quiet (fail)
          go_wp2_with (at_builtin; go_must (refine wpList_appRs (.tmp 39) (.tmp 44) B (.slice a2 p c2) (p) (S) 1 [⟨xk, xv, xg⟩] hsum1 ?_ ?_ ?_ ?_ ?_ ?_ ?_; exact rfl; exact rfl; exact rfl; exact ⟨_, _, rfl, new_row (r := ⟨xk, xv, xg⟩) rfl⟩; exact owns_below own (below_drewN (Below.refl _ _) _ |>.alloc (by simp) _); (focus (simp; omega)); intro a3 c3 w3 own3 b3))
          go_roundw
          case rel => exact ⟨t + 1, p + 1, a3, c3, true, _, by omega, by simp; omega, by go_num, rfl, rfl, HS.out, own3, ((below_drewN hB _).alloc (by simpa using hBs) _).trans b3⟩
          case measure => simp [intOf]; omega
    · obtain rfl : t = n := by omega
      have hit : ¬ ((t : Int) < (t : Int)) := by omega
      have HNo := hid (fun (e : d = false) => Ch.InSt.endNo (e ▸ st.out) (by have := HL.out; omega))
      have HYe := hid (fun (e : d = true) => Ch.InSt.endYes (e ▸ st.out) (by have := HL.out; omega))
      have hBw : w.heap.size ≤ B := by have := HBe.out; omega
      cases d with
      | false =>
        simp only [Bool.toNat_false, Nat.add_zero] at hp
        have hsum1 : p + 1 ≤ 2097152 := by omega
        have HN := hid (HNo.out rfl)
        clear HNo HYe st
        go_wp2_with (at_builtin; go_must (refine wpList_appRs (.tmp 48) (.tmp 50) B (.slice a2 p c2) (p) (S) 1 [⟨rk, rv, rg⟩] hsum1 ?_ ?_ ?_ ?_ ?_ ?_ ?_; exact rfl; exact rfl; exact rfl; exact ⟨_, _, rfl, new_row (r := ⟨rk, rv, rg⟩) rfl⟩; exact owns_below own ((Below.refl _ _).alloc (Nat.le_refl _) _); (focus (simp; omega)); intro a3 c3 w3 own3 b3))
        go_ret
        have hBo3 : Below w.heap.size w w3 := ((hbw.alloc hbw.size _)).trans (b3.mono hBw)
        exact ⟨a3, p + 1, c3, rfl, by rw [HN.out]; exact owns_base own3 hBw, hBo3⟩
      | true =>
        have HY := hid (HYe.out rfl)
        clear HNo HYe st
        go_wp2
        go_ret
        exact ⟨a2, p, c2, rfl, by rw [HY.out]; exact owns_base own hBw, hbw⟩
end Go.Proofs.Ytlpncikiaojmiaa


/- l13Set and l13Backs of the model. -/
namespace Go.Proofs.Ytlpncikiaojmiaa
open Go.RowKit

theorem Ch.filt_yes {zs : List Ch.Row} {k : Nat} {ky : Int} (h : k < zs.length) (hk : ((zs.getD k Ch.Row.zero).k != ky) = true) : (zs.take (k + 1)).filter (Ch.notK ky) = (zs.take k).filter (Ch.notK ky) ++ [zs.getD k Ch.Row.zero] := by
  rw [Ch.take_snocW zs k h, List.filter_append]
  have : Ch.notK ky (zs.getD k Ch.Row.zero) = true := hk
  simp only [List.filter_cons, this, if_true, List.filter_nil]
theorem Ch.filt_no {zs : List Ch.Row} {k : Nat} {ky : Int} (h : k < zs.length) (hk : ((zs.getD k Ch.Row.zero).k != ky) = false) : (zs.take (k + 1)).filter (Ch.notK ky) = (zs.take k).filter (Ch.notK ky) := by
  rw [Ch.take_snocW zs k h, List.filter_append]
  have : Ch.notK ky (zs.getD k Ch.Row.zero) = false := hk
  simp only [List.filter_cons, this, List.filter_nil, if_neg (by simp : ¬ false = true), List.append_nil]
def Ch.setZ (zs : List Ch.Row) (ky : Int) (hs : Bool) (v : Int) : List Ch.Row := if hs then Ch.into ⟨ky, v, false⟩ zs else zs.filter (Ch.notK ky)

set_option linter.unusedSimpArgs false in
set_option maxRecDepth 20000 in
set_option maxHeartbeats 2000000 in
theorem specSet_any (a : Option Addr) (n cap : Nat) (ky : Int) (hs : Bool) (v : Int) (zs : List Ch.Row) (w : World) (h : CellsAt w a (n * 3) (rcells zs)) (hn : n ≤ 1048576) :
    Calls Try.prog 69 #[.slice a n cap, .int .i64 ky, .bool hs, .int .i64 v] w fun e w' => ∃ a' m c', e = .returned (.slice a' m c') ∧ w'.ownsRow w.heap.size 64 3 (.slice a' m c') m (rcells (Ch.setZ zs ky hs v)) ∧ Below w.heap.size w w' := by
  have HL := h.rlen
  cases hs
  rotate_left
  · have HE : Hid (Ch.setZ zs ky true v = Ch.into ⟨ky, v, false⟩ zs) := rfl
    rw [HE.out]
    have IP := fun W hW => specInto_any a n cap zs ky v false W hW hn
    go_enter Try.func69, Try.ntmps69
    go_wp2_with fail
    refine (IP _ h).mono ?_
    rintro e w1 ⟨a', m, c', rfl, o1, b1⟩
    clear IP
    go_wp2
    go_ret
    exact ⟨a', m, c', rfl, o1, b1⟩
  · have HE : Hid (Ch.setZ zs ky false v = zs.filter (Ch.notK ky)) := rfl
    rw [HE.out]
    obtain ⟨i0, hi0, hz0, hz1, hz2⟩ := info_parts Try.info64
    have oE := own_empty w w.heap.size 64 3 (Nat.le_refl _)
    have kE : Below w.heap.size w (w.alloc (.cells #[] 64)) := (Below.refl _ _).alloc (Nat.le_refl _) _
    go_enter Try.func69, Try.ntmps69
    go_wp2
    go_loopw [9, 10] (fun q i wr => ∃ (k m : Nat) (a' : Option Addr) (c' : Nat), k ≤ n ∧ m ≤ k ∧ i = .int .i64 k ∧ q = .slice a' m c' ∧ wr.ownsRow w.heap.size 64 3 (.slice a' m c') m (rcells ((zs.take k).filter (Ch.notK ky))) ∧ Below w.heap.size w wr) (fun _ i _ => n - (intOf i).toNat)
    case atStart => exact ⟨0, 0, _, _, Nat.zero_le _, Nat.le_refl _, rfl, rfl, oE, kE⟩
    case round =>
      clear oE kE
      obtain ⟨k, m, a', c', hk, hmk, rfl, rfl, own, hB⟩ := hrel
      by_cases hlt : k < n
      · have hkl : k < zs.length := by have := HL.out; omega
        have HY := hid (fun h1 => Ch.filt_yes (ky := ky) hkl h1)
        have HN := hid (fun h1 => Ch.filt_no (ky := ky) hkl h1)
        obtain ⟨b, off, rfl, q0, q1, q2⟩ := (h.below hB).row hlt
        have hbl := lt_of_cell q0
        generalize zs.getD k Ch.Row.zero = r at *
        obtain ⟨rk, rv, rg⟩ := r
        simp only at q0 q1 q2 HY HN
        generalize (zs.take k).filter (Ch.notK ky) = ys at *
        have hsum : m + 1 ≤ 4194304 := by omega
        cases e1 : (rk != ky)
        · replace HN := hid (HN.out e1)
          clear HY
          go_wp2
          go_roundw
          case rel => exact ⟨k + 1, m, a', c', by omega, by omega, by go_num, rfl, by rw [HN.out]; exact own, hB⟩
          case measure => simp [intOf]; omega
        · replace HY := hid (HY.out e1)
          clear HN
          have kQ : Below wr.heap.size wr (wr.alloc (.cells #[.int .i64 rk, .int .i64 rv, .bool rg] 64)) := (Below.refl _ _).alloc (Nat.le_refl _) _
          have own3 := owns_below own kQ
          have hC3 := new_rowV wr rk rv rg 64
          have hb3 : w.heap.size ≤ (wr.alloc (.cells #[.int .i64 rk, .int .i64 rv, .bool rg] 64)).heap.size := by have := hB.size; simp; omega
          have b3 := hB.trans (kQ.mono hB.size)
          go_wp2_with (at_builtin; go_must (refine wpList_appX Try.underlying27 Try.underlying27 hi0 hz0 hz1 hz2 rfl (by omega) (by omega) (.tmp 31) (.tmp 36) ?_ ?_ w.heap.size (.slice a' m c') m (rcells ys) _ 1 1 (rcells [⟨rk, rv, rg⟩]) ?_ ?_ own3 hC3 (rcells_oneV _) hsum hb3 ?_; exact rfl; exact rfl; exact rfl; exact rfl; intro a5 c5 w5 own5 gr5 at5; go_frame))
          go_roundw
          case rel =>
            rw [← rcells_appendV, ← HY.out] at own5
            exact ⟨k + 1, m + 1, a5, c5, by omega, by omega, by go_num, rfl, own5, b3.grown gr5 b3.size (fun g hg => (owns_lt own3 g hg).1)⟩
          case measure => simp [intOf]; omega
      · obtain rfl : k = n := by omega
        have HWF : Hid (zs.take k = zs) := by have := HL.out; show _ = _; rw [this]; exact List.take_length
        rw [HWF.out] at own
        go_wp2
        go_ret
        exact ⟨a', m, c', rfl, own, hB⟩

/-- How many of each transaction are taken back already, by number. -/
def Ch.bkL (b : Int → Int) : List Int := (List.range 1000).map (fun i : Nat => b i)
theorem Ch.bkL_len (b : Int → Int) : (Ch.bkL b).length = 1000 := by simp [Ch.bkL]
theorem Ch.bkL_at (b : Int → Int) {i : Nat} (h : i < 1000) : (Ch.bkL b).getD i 0 = b i := by simp [Ch.bkL, List.getD, h]
theorem Ch.bkL_set (b : Int → Int) {i : Nat} (h : i < 1000) (v : Int) : (Ch.bkL b).set i v = Ch.bkL (fun t => if t = i then v else b t) := by
  apply List.ext_getElem?
  intro q
  simp only [Ch.bkL, List.getElem?_set, List.getElem?_map, List.length_map, List.length_range]
  by_cases hq : q < 1000
  · rw [List.getElem?_range hq]
    by_cases e : i = q
    · subst e; simp [hq]
    · have : ¬ ((q : Int) = (i : Int)) := by omega
      simp [e, this]
  · rw [List.getElem?_eq_none (by simp; omega)]
    have : i ≠ q := by omega
    simp [this]
theorem made_ints (n : Nat) : (madeCells (Value.int .i64 0).cells (n * 1)).toList = icells (List.replicate n 0) := by
  apply List.ext_getElem?
  intro j
  by_cases hj : j < n
  · simp [madeCells, icells, Value.cells, hj, Nat.mod_one]
  · rw [List.getElem?_eq_none (by simp [madeCells]; omega), List.getElem?_eq_none (by simp [icells]; omega)]
theorem Ch.map_zero (n : Nat) : (List.range n).map (fun _ : Nat => (0 : Int)) = List.replicate n 0 := by
  rw [List.eq_replicate_iff]
  simp
theorem Ch.bkL_zero : Ch.bkL (fun _ => 0) = List.replicate 1000 0 := Ch.map_zero 1000
theorem Ch.bk_back {rs : List Ch.Rec} {k : Nat} (hk : k < rs.length) (h : (rs.getD k Ch.Rec.zero).kd = 3) : (fun t => (Ch.fate (rs.take (k + 1)) t).bk) = fun t => if t = (rs.getD k Ch.Rec.zero).tx then (Ch.fate (rs.take k) (rs.getD k Ch.Rec.zero).tx).bk + 1 else (Ch.fate (rs.take k) t).bk := by
  funext t
  by_cases e : t = (rs.getD k Ch.Rec.zero).tx
  · rw [if_pos e, e, Ch.fate_same hk, Ch.step_bk, if_pos h]
  · rw [if_neg e, Ch.fate_other hk e]
theorem Ch.bk_else {rs : List Ch.Rec} {k : Nat} (hk : k < rs.length) (h : (rs.getD k Ch.Rec.zero).kd ≠ 3) : (fun t => (Ch.fate (rs.take (k + 1)) t).bk) = fun t => (Ch.fate (rs.take k) t).bk := by
  funext t
  by_cases e : t = (rs.getD k Ch.Rec.zero).tx
  · rw [e, Ch.fate_same hk, Ch.step_bk, if_neg h]; omega
  · rw [Ch.fate_other hk e]

end Go.Proofs.Ytlpncikiaojmiaa

