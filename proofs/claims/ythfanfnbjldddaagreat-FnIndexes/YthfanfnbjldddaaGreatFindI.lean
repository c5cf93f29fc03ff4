
/- FindRow of the program. -/
import Derived.Test.YthfanfnbjldddaaGreatFindW
namespace Go.Proofs.YthfanfnbjldddaaGreat
open Go.RowKit Go.Maps

theorem Tryz.zeroPlace (w : World) : (zeroValue 121).run Tryz.prog w = .ok (.agg #[.int .i64 0, .int .i64 0]) w := by kernel_rfl

/-- A look-up in the map of places. -/
theorem wpList_look {ops : Array Oper} {rest : List Oper} {o : Oper} {a : Act} {w : World} {Q : Exit → Act → World → Prop} (m x : Operand) (B N : Nat) (D : DataW Unit) (key : Int) (i j : Nat) (bb : Bool)
    (hop : o.op = Op.lookup 123 m x true) (hg : o.guard = none) (hm : a.eval m = .map (some B)) (hx : a.eval x = .int .i64 key) (hown : w.ownsMap Tryz.prog 2 plElem B N D) (h0 : 0 ≤ key) (h1 : key ≤ 99)
    (hb : Maps.has D (kk key) = bb) (hat : D.atKey (kk key) (pl 0 0) = pl i j) (hK : wpList Tryz.prog ops Q rest (a.put o.dst (.tuple #[.agg #[.int .i64 i, .int .i64 j], .bool bb])) w) : wpList Tryz.prog ops Q (o :: rest) a w := by
  refine wpList_lookup_own_ok w hg m x 123 hop 2 121 Tryz.keyed Tryz.underlying123 plElem (Tryz.zeroPlace w) (pl 0 0) [] (plElem_mk 0 0) B N D hm hown _ (kk key) hx (kk_key h0 h1) ?_
  intro v ps hv
  rw [hat] at hv
  rw [plElem_inv hv, hb]
  exact hK

theorem Pl.none {ls : List (List Ch.Row)} {D : DataW Unit} {key : Int} (h : Pl ls D ls.length 0) (hf : Ch.findR ls key = none) : Maps.has D (kk key) = false ∧ D.atKey (kk key) (pl 0 0) = pl 0 0 := by
  have hh : Maps.has D (kk key) = false := by
    cases hb : Maps.has D (kk key)
    · rfl
    · obtain ⟨i, j, hi, hj, he⟩ := h.no key hb
      exact absurd he (Ch.find_none hf i j hi hj)
  exact ⟨hh, atKey_of_not_has hh _⟩
theorem Pl.some {ls : List (List Ch.Row)} {D : DataW Unit} {key : Int} {r : Ch.Row} (h : Pl ls D ls.length 0) (hf : Ch.findR ls key = some r) : ∃ i j, i < ls.length ∧ j < (ls.getD i []).length ∧ Ch.rowAt ls i j = r ∧ r.k = key ∧ Maps.has D (kk key) = true ∧ D.atKey (kk key) (pl 0 0) = pl i j := by
  obtain ⟨i, j, hi, hj, hr, hk⟩ := Ch.find_some hf
  have := h.yes i j (.inl hi) hi hj
  have e : Ch.keyAt ls i j = key := by unfold Ch.keyAt; rw [hr]; exact hk
  rw [e] at this
  exact ⟨i, j, hi, hj, hr, hk, this.1, this.2 _⟩
theorem inB_key {key : Int} (h : Ch.inB key 0 99 = true) : 0 ≤ key ∧ key ≤ 99 := by
  unfold Ch.inB at h
  simpa using h

set_option linter.unusedSimpArgs false in
set_option maxHeartbeats 2000000 in
theorem implFindRow_any (a : Option Addr) (n cap : Nat) (key : Int) (ls : List (List Ch.Row)) (w : World) (h : LvAt w a n ls) (hs : Ch.lvSize ls ≤ 1048576) :
    Calls Tryz.prog 49 #[.slice a n cap, .int .i64 key] w fun e w' => ∃ a' m c', e = .returned (.agg #[.int .i64 (Ch.findRR ls key).1, .slice a' m c']) ∧ m ≤ 1048576 ∧ w'.ownsRow w.heap.size 53 3 (.slice a' m c') m (rcells (Ch.findRR ls key).2) ∧ Below w.heap.size w w' := by
  have HL := h.len
  have b0 : ∀ t, Below w.heap.size w ((w.alloc (.cells #[.int .i64 0, .slice none 0 0] 50)).alloc (.cells #[.int .i64 key] t)) := fun t => Below.alloc (Below.alloc (Below.refl _ w) (Nat.le_refl _) _) (by simp) _
  cases hc : (Ch.asked ls key != 0)
  · have HG := hid (Ch.asked_good (ls := ls) (key := key) (by simpa using hc))
    have ⟨hk0, hk1⟩ := inB_key HG.out.2
    have HR1 := hid (fun hf => Ch.findRR_none (ls := ls) (key := key) hc hf)
    have HR2 := hid (fun r hf => Ch.findRR_some (ls := ls) (key := key) (r := r) hc hf)
    go_enter Tryz.func49, Tryz.ntmps49
    go_wp2_with fail
    refine (implKeys_any a n cap ls _ 1 1 [key] _ (h.below (b0 _)) hs one_key (by omega)).mono ?_
    rintro e w1 ⟨rfl, b1⟩
    obtain ⟨cA, fA⟩ := bcell b1
    have x0 := cA w.heap.size 0 (by simp; omega)
    have x1 := cA w.heap.size 1 (by simp; omega)
    have f0 := fA w.heap.size 0 (by simp; omega)
    have f1 := fA w.heap.size 1 (by simp; omega)
    clear cA fA
    simp [go_sem] at x0 x1 f0 f1
    have hz := lt_of_cell x0
    have bE := (b0 _).trans (b1.mono (b0 _).size)
    rw [askedAll_one]
    generalize Ch.asked ls key = c at *
    go_wp2_with fail
    refine (places_any a n cap ls _ (h.below bE) HG.out.1).mono ?_
    rintro e w2 ⟨N, D, rfl, own, hP, b2⟩
    replace x0 := keep_cell b2 x0
    replace x1 := keep_cell b2 x1
    replace f0 := ((bcell b2).2 w.heap.size 0 hz).trans f0
    replace f1 := ((bcell b2).2 w.heap.size 1 hz).trans f1
    have hz2 := lt_of_cell x0
    have bE2 := bE.trans (b2.mono bE.size)
    clear b1 b2 hc
    cases hf : Ch.findR ls key with
    | none =>
      have HR := hid (HR1.out hf)
      obtain ⟨hh, ha⟩ := hP.none hf
      clear HR1 HR2 hf HG
      go_wp2_with (at_lookup; go_must (refine wpList_look _ _ w1.heap.size N D key 0 0 false rfl rfl rfl rfl own hk0 hk1 hh ha ?_))
      refine bodyPost_ret (v := .agg #[.int .i64 4, .slice none 0 0]) (by simp [results, Tryz.results49, go_sem, x0, x1, hz2]) rfl ⟨none, 0, 0, by rw [HR.out], by omega, by rw [HR.out]; exact World.ownsRow_nil _ _ _ _, ?_⟩
      exact Below.alloc ((bE2.setCell (p := ⟨w.heap.size, 0, none⟩) (Nat.le_refl _) _).setCell (p := ⟨w.heap.size, 1, none⟩) (Nat.le_refl _) _) (by simp; omega) _
    | some r =>
      have HR := hid (HR2.out r hf)
      obtain ⟨i, j, hi, hj, hra, hrk, hh, ha⟩ := hP.some hf
      clear hrk
      have hin : i < n := by have := HL.out; omega
      obtain ⟨b, off, ai, ni, ci, rfl, hcc, hr, hni⟩ := (h.below bE2).leaf hin
      have hbl := lt_of_cell hcc
      have HRl := hr.rlen
      have hjn : j < ni := by have := HRl.out; omega
      obtain ⟨b1, o1, rfl, q0, q1, q2⟩ := hr.row hjn
      have hbl1 := lt_of_cell q0
      unfold Ch.rowAt at hra
      rw [hra] at q0 q1 q2
      obtain ⟨rk, rv, rg⟩ := r
      simp only at q0 q1 q2
      have hn60 : n ≤ 60 := by have := Ch.good_len HG.out.1; have := HL.out; omega
      have hni4 : ni ≤ 4 := by have := (Ch.allFit_of_page (Ch.good_leaf HG.out.1 i hi).2).2; have := HRl.out; omega
      clear HR1 HR2 hf HG hra hj hi
      go_wp2_with (at_lookup; go_must (refine wpList_look _ _ w1.heap.size N D key i j true rfl rfl rfl rfl own hk0 hk1 hh ha ?_))
      go_region
      all_goals
        go_wp2
        refine bodyPost_ret (v := .agg #[.int .i64 0, .slice (some ⟨w2.heap.size + 1, 0, none⟩) 1 1]) (by simp [results, Tryz.results49, go_sem, x0, x1, hz2, Nat.lt_succ_of_lt hz2]) rfl ⟨_, 1, 1, by rw [HR.out], by omega, ?_, ?_⟩
        · rw [HR.out]
          exact new_own ⟨rk, rv, rg⟩ (by simp) (by simp; omega)
        · exact (Below.alloc (Below.alloc ((bE2.setCell (p := ⟨w.heap.size, 0, none⟩) (Nat.le_refl _) _).setCell (p := ⟨w.heap.size, 1, none⟩) (Nat.le_refl _) _) (by simp; omega) _) (by simp; omega) _).drew
  · rw [Ch.findRR_code hc]
    go_enter Tryz.func49, Tryz.ntmps49
    go_wp2_with fail
    refine (implKeys_any a n cap ls _ 1 1 [key] _ (h.below (b0 _)) hs one_key (by omega)).mono ?_
    rintro e w1 ⟨rfl, b1⟩
    obtain ⟨cA, fA⟩ := bcell b1
    have x0 := cA w.heap.size 0 (by simp; omega)
    have x1 := cA w.heap.size 1 (by simp; omega)
    have f0 := fA w.heap.size 0 (by simp; omega)
    have f1 := fA w.heap.size 1 (by simp; omega)
    clear cA fA
    simp [go_sem] at x0 x1 f0 f1
    have hz := lt_of_cell x0
    have bE := (b0 _).trans (b1.mono (b0 _).size)
    rw [askedAll_one]
    generalize hq : Ch.asked ls key = c at *
    go_wp2
    exact bodyPost_ret (v := .agg #[.int .i64 c, .slice none 0 0]) (by simp [results, Tryz.results49, go_sem, x0, x1]) rfl ⟨none, 0, 0, by rw [hq], by omega, World.ownsRow_nil _ _ _ _, (bE.setCell (p := ⟨w.heap.size, 0, none⟩) (Nat.le_refl _) _).setCell (p := ⟨w.heap.size, 1, none⟩) (Nat.le_refl _) _⟩
end Go.Proofs.YthfanfnbjldddaaGreat
