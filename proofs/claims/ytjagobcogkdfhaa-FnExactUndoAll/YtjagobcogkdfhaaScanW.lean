
/- Scans: the model's and the program's walks. -/
import Derived.Test.YtjagobcogkdfhaaAllI
namespace Go.Proofs.Ytjagobcogkdfhaa
open Go.RowKit

/-- A row that a scan tells. -/
def Ch.inScan (lo hi : Int) (r : Ch.Row) : Bool := inB r.k lo hi && !r.g
def Ch.scan (lo hi : Int) (rs : List Ch.Row) : List Ch.Row := rs.filter (inScan lo hi)
/-- What ScanRows answers. -/
def Ch.scanR (ls : List (List Ch.Row)) (lo hi : Int) : Int × List Ch.Row :=
  if leavesFault ls != 0 then (leavesFault ls, []) else if inB lo 0 99 && inB hi 0 99 then (0, scan lo hi ls.flatten) else (3, [])
theorem Ch.scan_yes {lo hi : Int} {rs : List Ch.Row} {k : Nat} (h : k < rs.length) (hin : inScan lo hi (rs.getD k Row.zero) = true) : scan lo hi (rs.take (k + 1)) = scan lo hi (rs.take k) ++ [rs.getD k Row.zero] := by
  rw [take_snoc rs Row.zero k h]; generalize rs.getD k Row.zero = r at *; unfold scan; rw [List.filter_append]; simp [hin]
theorem Ch.scan_no {lo hi : Int} {rs : List Ch.Row} {k : Nat} (h : k < rs.length) (hin : inScan lo hi (rs.getD k Row.zero) = false) : scan lo hi (rs.take (k + 1)) = scan lo hi (rs.take k) := by
  rw [take_snoc rs Row.zero k h]; generalize rs.getD k Row.zero = r at *; unfold scan; rw [List.filter_append]; simp [hin]
theorem Ch.scan_len (lo hi : Int) (rs : List Ch.Row) : (scan lo hi rs).length ≤ rs.length := List.length_filter_le _ _

/-- A row that was just made, as a list of one. -/
theorem new_row {w : World} {r : Ch.Row} {t : TypeId} {H : Nat} (hH : H = w.heap.size) : CellsAt (w.alloc (.cells #[.int .i64 r.k, .int .i64 r.v, .bool r.g] t)) (some ⟨H, 0, none⟩) (1 * 3) (rcells [r]) := by
  subst hH
  refine ⟨rfl, fun _ => ⟨_, _, rfl, fun i hi => ?_⟩⟩
  rw [Nat.zero_add]
  have := cell_of_row (w.alloc (.cells #[.int .i64 r.k, .int .i64 r.v, .bool r.g] t)) _ i _ _ _ (heap_alloc_new w _)
  rw [this]
  simp [rcells]

/-- Rows appended to rows of one's own: all other blocks stay. -/
theorem wpList_appG {ops : Array Oper} {rest : List Oper} {o : Oper} {a : Act} {w : World} {Q : Exit → Act → World → Prop} (s x : Operand)
    (B : Nat) (v : Value) (n : Nat) (rs : List Ch.Row) (m : Nat) (zs : List Ch.Row) (hm : n + m ≤ 2097152) (hm0 : 0 < m)
    (ho : o.op = .call { callee := .builtin .append, args := #[s, x], argTypes := #[27, 27] }) (hgd : o.guard = none)
    (hs : a.eval s = v) (hx : ∃ ad c, a.eval x = .slice (some ad) m c ∧ CellsAt w (some ad) (m * 3) (rcells zs))
    (hown : w.ownsRow B 33 3 v n (rcells rs)) (hbase : B ≤ w.heap.size)
    (hK : ∀ a' c' w', w'.ownsRow B 33 3 (.slice a' (n + m) c') (n + m) (rcells (rs ++ zs)) → w.grownBy w' v.ownBlock → (∀ g, (Value.slice a' (n + m) c').ownBlock = some g → v.ownBlock = some g ∨ w.heap.size ≤ g) → wpList Try.prog ops Q rest (a.put o.dst (.slice a' (n + m) c')) w') :
    wpList Try.prog ops Q (o :: rest) a w := by
  obtain ⟨ad, c, hx, hc⟩ := hx
  obtain ⟨i0, hi, hz0, hz1, hz2⟩ := info_parts Try.info33
  refine wpList_append_lies w hgd s x 27 ho B 33 i0 _ 3 24 Try.underlying27 hi hz0 hz1 hz2 rfl (by omega) v n (rcells rs) hs hown ad m c (rcells zs) hx hc.1 ?_ (rcells_one zs) hm0 (by unfold maxLen; omega) (by omega) hbase _ rfl ?_
  · intro j u hj
    have hjl : j < (rcells zs).length := (List.getElem?_eq_some_iff.1 hj).1
    have hl := hc.1
    obtain ⟨b, off, ha, hcc⟩ := hc.2 (by omega)
    simp only [Option.some.injEq] at ha
    subst ha
    have e : (⟨b, off, none⟩ : Addr).add j = ⟨b, off + j, none⟩ := by
      unfold Addr.add
      split
      · next h0 => subst h0; rfl
      · rfl
    rw [e, hcc j (by omega), hj]
  · intro g cp' w' hown' hgrow hat hlt
    rw [← rcells_append] at hown'
    refine hK _ _ w' hown' hgrow fun g' hg' => ?_
    simp [Value.ownBlock] at hg'
    subst hg'
    rcases hat with hat | hat
    · exact .inl hat
    · exact .inr (by omega)

set_option maxHeartbeats 1600000 in
theorem specScan_any (a : Option Addr) (n cap : Nat) (lo hi : Int) (ls : List (List Ch.Row)) (w : World) (h : LvAt w a n ls) (hs : Ch.lvSize ls ≤ 1048576) (hg : ∀ k, k < n → (ls.getD k []).length ≠ 0) :
    Calls Try.prog 85 #[.slice a n cap, .int .i64 lo, .int .i64 hi] w fun e w' => ∃ a' m c', e = .returned (.slice a' m c') ∧ m ≤ 1048576 ∧ w'.ownsRow w.heap.size 33 3 (.slice a' m c') m (rcells (Ch.scan lo hi ls.flatten)) ∧ Below w.heap.size w w' := by
  have HL := h.len
  have hfl := Ch.flat_small hs ls.length
  rw [List.take_length] at hfl
  have o0 := empty_rows w w.heap.size (Nat.le_refl _)
  have b0 : Below w.heap.size w (w.alloc (.cells #[] 33)) := (Below.refl _ _).alloc (Nat.le_refl _) _
  go_enter Try.func85, Try.ntmps85
  go_wp2_with fail
  refine (specRows_any a n cap ls _ (h.below b0) hs hg).mono ?_
  rintro e w1 ⟨a1, c1, rfl, own1, b1⟩
  have o1 := owns_below o0 b1
  have b1' := b0.trans (b1.mono b0.size)
  have z1 := b1.size
  simp at z1
  have L1 : ∀ b off, a1 = some ⟨b, off, none⟩ → w.heap.size < b ∧ b < w1.heap.size := by
    intro b off hb
    subst hb
    rcases own1.2 with ⟨hv, _⟩ | ⟨g, cp, cur, hv, _⟩
    · simp at hv
    · have := owns_lt own1 g (by rw [hv]; rfl)
      simp only [Value.slice.injEq, Option.some.injEq, Addr.mk.injEq] at hv
      obtain ⟨⟨rfl, _⟩, _⟩ := hv
      simp at this
      omega
  have C1 := owns_cells own1
  have HN := C1.rlen
  generalize hF : ls.flatten = F at *
  generalize hnf : F.length = nf at *
  go_wp2
  go_loopw [7, 9] (fun q i wr => ∃ (k m : Nat) (a' : Option Addr) (c' : Nat), k ≤ nf ∧ m ≤ k ∧ i = .int .i64 k ∧ q = .slice a' m c' ∧ wr.ownsRow w.heap.size 33 3 (.slice a' m c') m (rcells (Ch.scan lo hi (F.take k))) ∧ Hid (∀ g, (Value.slice a' m c').ownBlock = some g → g = w.heap.size ∨ w1.heap.size ≤ g) ∧ CellsAt wr a1 (nf * 3) (rcells F) ∧ w1.heap.size ≤ wr.heap.size ∧ Below w.heap.size w wr) (fun _ i _ => nf - (intOf i).toNat)
  case atStart => exact ⟨0, 0, _, _, Nat.zero_le _, Nat.le_refl _, rfl, rfl, by simpa [Ch.scan] using o1, (fun g hg => by simp [Value.ownBlock] at hg; exact .inl hg.symm), C1, Nat.le_refl _, b1'⟩
  case round =>
    obtain ⟨k, m, a', c', hk, hmk, rfl, rfl, own, HO, C, hsz, hB⟩ := hrel
    by_cases hlt : k < nf
    · obtain ⟨b, off, rfl, hc0, hc1, hc2⟩ := C.row hlt
      have hLb := L1 b off rfl
      have HY := hid (fun hin => Ch.scan_yes (lo := lo) (hi := hi) (rs := F) (k := k) (by omega) hin)
      have HNo := hid (fun hin => Ch.scan_no (lo := lo) (hi := hi) (rs := F) (k := k) (by omega) hin)
      generalize F.getD k Ch.Row.zero = r at *
      have hsum : m + 1 ≤ 2097152 := by omega
      generalize Ch.scan lo hi (F.take k) = S at *
      obtain ⟨rk, rv, rg⟩ := r
      simp only [Ch.inScan] at hc0 hc1 hc2 HY HNo
      cases hin : Ch.inB rk lo hi
      · go_wp2_with fail
        refine (in_any rk lo hi _).mono ?_
        rintro e w2 ⟨rfl, rfl⟩
        rw [hin]
        go_wp2
        go_roundw
        case rel => exact ⟨k + 1, m, a', c', by omega, by omega, by go_num, rfl, by rw [HNo.out (by simp [hin])]; exact own, HO, C, hsz, hB⟩
        case measure => simp [intOf]; omega
      · cases rg
        · go_wp2_with fail
          refine (in_any rk lo hi _).mono ?_
          rintro e w2 ⟨rfl, rfl⟩
          rw [hin]
          have bA : ∀ o, Below w2.heap.size w2 (w2.alloc o) := fun o => (Below.refl _ _).alloc (Nat.le_refl _) _
          go_wp2_with (at_builtin; go_must (refine wpList_appG (.tmp 35) (.tmp 40) w.heap.size (.slice a' m c') m S 1 [⟨rk, rv, false⟩] hsum (by omega) ?_ ?_ ?_ ?_ ?_ ?_ ?_; exact rfl; exact rfl; exact rfl; exact ⟨_, _, rfl, new_row (r := ⟨rk, rv, false⟩) rfl⟩; exact owns_below own (bA _); (focus (simp; omega)); intro a3 c3 w3 own3 gr3 at3))
          go_roundw
          case rel =>
            refine ⟨k + 1, m + 1, a3, c3, by omega, by omega, by go_num, rfl, by rw [HY.out (by simp [hin])]; exact own3, ?_, ?_, ?_, ?_⟩
            · intro g hg
              rcases at3 g hg with h1 | h1
              · exact HO.out g h1
              · right; simp at h1; omega
            · refine cells_grown (C.below (bA _)) gr3 ?_
              intro b' off' hb' hrow
              simp only [Option.some.injEq, Addr.mk.injEq, and_true] at hb'
              obtain ⟨rfl, rfl⟩ := hb'
              rcases HO.out _ hrow with h1 | h1 <;> omega
            · have := gr3.size; simp at this; omega
            · refine (hB.alloc hB.size _).grown gr3 (by simp; omega) ?_
              intro k' hk'
              rcases HO.out _ hk' with h1 | h1 <;> omega
          case measure => simp [intOf]; omega
        · go_wp2_with fail
          refine (in_any rk lo hi _).mono ?_
          rintro e w2 ⟨rfl, rfl⟩
          rw [hin]
          go_wp2
          go_roundw
          case rel => exact ⟨k + 1, m, a', c', by omega, by omega, by go_num, rfl, by rw [HNo.out (by simp [hin])]; exact own, HO, C, hsz, hB⟩
          case measure => simp [intOf]; omega
    · obtain rfl : k = nf := by omega
      go_wp2
      go_ret
      rw [List.take_of_length_le (by omega)] at own
      exact ⟨a', m, c', rfl, by omega, by rw [hF]; exact own, hB⟩

theorem Ch.scanR_code {ls : List (List Ch.Row)} {lo hi : Int} (h : (leavesFault ls != 0) = true) : scanR ls lo hi = (leavesFault ls, []) := by rw [scanR, if_pos h]
theorem Ch.scanR_range {ls : List (List Ch.Row)} {lo hi : Int} (h : (leavesFault ls != 0) = false) (h2 : (inB lo 0 99 && inB hi 0 99) = false) : scanR ls lo hi = (3, []) := by
  rw [scanR, if_neg (by rw [h]; exact Bool.false_ne_true), if_neg (by rw [h2]; exact Bool.false_ne_true)]
theorem Ch.scanR_ok {ls : List (List Ch.Row)} {lo hi : Int} (h : (leavesFault ls != 0) = false) (h2 : (inB lo 0 99 && inB hi 0 99) = true) : scanR ls lo hi = (0, scan lo hi ls.flatten) := by
  rw [scanR, if_neg (by rw [h]; exact Bool.false_ne_true), if_pos h2]

set_option linter.unusedSimpArgs false in
set_option maxHeartbeats 800000 in
theorem specScanRows_any (a : Option Addr) (n cap : Nat) (lo hi : Int) (ls : List (List Ch.Row)) (w : World) (h : LvAt w a n ls) (hs : Ch.lvSize ls ≤ 1048576) :
    Calls Try.prog 19 #[.slice a n cap, .int .i64 lo, .int .i64 hi] w fun e w' => ∃ a' m c', e = .returned (.agg #[.int .i64 (Ch.scanR ls lo hi).1, .slice a' m c']) ∧ m ≤ 1048576 ∧ w'.ownsRow w.heap.size 33 3 (.slice a' m c') m (rcells (Ch.scanR ls lo hi).2) ∧ Below w.heap.size w w' := by
  have HL := h.len
  have b0 : Below w.heap.size w (w.alloc (.cells #[.int .i64 0, .slice none 0 0] 29)) := (Below.refl _ _).alloc (Nat.le_refl _) _
  cases hc : (Ch.leavesFault ls != 0)
  · have h0 : Ch.leavesFault ls = 0 := by simpa using hc
    have hg := Ch.good_at HL h0
    cases h1 : Ch.inB lo 0 99
    · rw [Ch.scanR_range hc (by simp [h1])]
      go_enter Try.func19, Try.ntmps19
      go_wp2_with fail
      refine (specLv_any a n cap ls _ (h.below b0) hs).mono ?_
      rintro e w1 ⟨rfl, b1⟩
      obtain ⟨x0, x1⟩ := box2 b1
      have f0 := box_froz b1 0
      have f1 := box_froz b1 1
      have hz := lt_of_cell x0
      have bE := b0.trans (b1.mono b0.size)
      go_wp2_with fail
      refine (key_any lo _).mono ?_
      rintro e w2 ⟨rfl, rfl⟩
      rw [h1]
      go_wp2
      exact bodyPost_ret (v := .agg #[.int .i64 3, .slice none 0 0]) (by simp [results, Try.results19, go_sem, x0, x1]) rfl ⟨none, 0, 0, rfl, by omega, World.ownsRow_nil _ _ _ _, (bE.setCell (p := ⟨w.heap.size, 0, none⟩) (Nat.le_refl _) _).setCell (p := ⟨w.heap.size, 1, none⟩) (Nat.le_refl _) _⟩
    · cases h2 : Ch.inB hi 0 99
      · rw [Ch.scanR_range hc (by simp [h1, h2])]
        go_enter Try.func19, Try.ntmps19
        go_wp2_with fail
        refine (specLv_any a n cap ls _ (h.below b0) hs).mono ?_
        rintro e w1 ⟨rfl, b1⟩
        obtain ⟨x0, x1⟩ := box2 b1
        have f0 := box_froz b1 0
        have f1 := box_froz b1 1
        have hz := lt_of_cell x0
        have bE := b0.trans (b1.mono b0.size)
        go_wp2_with fail
        refine (key_any lo _).mono ?_
        rintro e w2 ⟨rfl, rfl⟩
        rw [h1]
        go_wp2_with fail
        refine (key_any hi _).mono ?_
        rintro e w3 ⟨rfl, rfl⟩
        rw [h2]
        go_wp2
        exact bodyPost_ret (v := .agg #[.int .i64 3, .slice none 0 0]) (by simp [results, Try.results19, go_sem, x0, x1]) rfl ⟨none, 0, 0, rfl, by omega, World.ownsRow_nil _ _ _ _, (bE.setCell (p := ⟨w.heap.size, 0, none⟩) (Nat.le_refl _) _).setCell (p := ⟨w.heap.size, 1, none⟩) (Nat.le_refl _) _⟩
      · rw [Ch.scanR_ok hc (by simp [h1, h2])]
        go_enter Try.func19, Try.ntmps19
        go_wp2_with fail
        refine (specLv_any a n cap ls _ (h.below b0) hs).mono ?_
        rintro e w1 ⟨rfl, b1⟩
        obtain ⟨x0, x1⟩ := box2 b1
        have f0 := box_froz b1 0
        have f1 := box_froz b1 1
        have hz := lt_of_cell x0
        have bE := b0.trans (b1.mono b0.size)
        go_wp2_with fail
        refine (key_any lo _).mono ?_
        rintro e w2 ⟨rfl, rfl⟩
        rw [h1]
        go_wp2_with fail
        refine (key_any hi _).mono ?_
        rintro e w3 ⟨rfl, rfl⟩
        rw [h2]
        go_wp2_with fail
        refine (specScan_any a n cap lo hi ls _ (h.below bE) hs hg).mono ?_
        rintro e w4 ⟨a', m, c', rfl, hm, own, b4⟩
        replace x0 := keep_cell b4 x0
        replace x1 := keep_cell b4 x1
        replace f0 := ((bcell b4).2 w.heap.size 0 hz).trans f0
        replace f1 := ((bcell b4).2 w.heap.size 1 hz).trans f1
        have bE2 := bE.trans (b4.mono bE.size)
        go_wp2
        refine bodyPost_ret (v := .agg #[.int .i64 0, .slice a' m c']) (by simp [results, Try.results19, go_sem, x0, x1]) rfl ⟨a', m, c', rfl, hm, ?_, ?_⟩
        · exact owns_base (ownsRow_setCell_below (a := ⟨w.heap.size, 1, none⟩) (ownsRow_setCell_below (a := ⟨w.heap.size, 0, none⟩) own hz _) hz _) bE.size
        · exact (bE2.setCell (p := ⟨w.heap.size, 0, none⟩) (Nat.le_refl _) _).setCell (p := ⟨w.heap.size, 1, none⟩) (Nat.le_refl _) _
  · rw [Ch.scanR_code hc]
    go_enter Try.func19, Try.ntmps19
    go_wp2_with fail
    refine (specLv_any a n cap ls _ (h.below b0) hs).mono ?_
    rintro e w1 ⟨rfl, b1⟩
    obtain ⟨x0, x1⟩ := box2 b1
    have f0 := box_froz b1 0
    have f1 := box_froz b1 1
    have hz := lt_of_cell x0
    have bE := b0.trans (b1.mono b0.size)
    generalize hq : Ch.leavesFault ls = c at *
    go_wp2
    exact bodyPost_ret (v := .agg #[.int .i64 c, .slice none 0 0]) (by simp [results, Try.results19, go_sem, x0, x1]) rfl ⟨none, 0, 0, by rw [hq], by omega, World.ownsRow_nil _ _ _ _, (bE.setCell (p := ⟨w.heap.size, 0, none⟩) (Nat.le_refl _) _).setCell (p := ⟨w.heap.size, 1, none⟩) (Nat.le_refl _) _⟩

end Go.Proofs.Ytjagobcogkdfhaa
