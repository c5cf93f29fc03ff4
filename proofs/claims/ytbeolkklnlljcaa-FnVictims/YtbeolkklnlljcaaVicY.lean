/- VictimOf of the program and of the model; numbers copied by a law. -/
import Derived.Test.YtbeolkklnlljcaaVicX
import Derived.Test.YtbeolkklnlljcaaLkY
namespace Go.Proofs.Ytbeolkklnlljcaa
open Go.RowKit Go.Maps

theorem Ch.vic_none {cyc sys : List Int} (h : cyc.length = 0) : Ch.victimR cyc sys = (4, 0) := by unfold Ch.victimR; rw [if_pos h]
theorem Ch.vic_bad {cyc sys : List Int} {k : Nat} (hk : k < cyc.length) (h : Ch.inB (cyc.getD k 0) 1 999 = false) : Ch.victimR cyc sys = (3, 0) := by
  unfold Ch.victimR
  rw [if_neg (by omega), if_pos]
  rw [List.any_eq_true]
  exact ⟨cyc.getD k 0, by simp [List.getD, hk], by rw [h]; rfl⟩
theorem Ch.vic_ok {cyc sys : List Int} (h0 : 0 < cyc.length) (h : ∀ v ∈ cyc, Ch.inB v 1 999 = true) : Ch.victimR cyc sys = (0, Ch.victim cyc sys) := by
  unfold Ch.victimR
  rw [if_neg (by omega), if_neg]
  intro ha
  obtain ⟨v, hv, hb⟩ := List.any_eq_true.1 ha
  rw [h v hv] at hb
  cases hb
theorem Ch.txn_snoc {cyc : List Int} {k : Nat} (hk : k < cyc.length) (h : ∀ v ∈ cyc.take k, Ch.inB v 1 999 = true) (h2 : Ch.inB (cyc.getD k 0) 1 999 = true) : ∀ v ∈ cyc.take (k + 1), Ch.inB v 1 999 = true := by
  intro v hv
  rw [Ch.take_snoc cyc 0 k hk, List.mem_append] at hv
  rcases hv with hv | hv
  · exact h v hv
  · rw [List.mem_singleton.1 hv]; exact h2

set_option maxHeartbeats 2000000 in
theorem implVictim_any (a a2 : Option Addr) (n cap n2 cap2 : Nat) (cyc sys : List Int) (w : World) (h : CellsAt w a (n * 1) (icells cyc)) (h2 : CellsAt w a2 (n2 * 1) (icells sys)) (hn : n ≤ 1048576) (hn2 : n2 ≤ 1048576) (hw2 : IsW sys) :
    Calls Try.prog 37 #[.slice a n cap, .slice a2 n2 cap2] w fun e w' => e = .returned (.agg #[.int .i64 (Ch.victimR cyc sys).1, .int .i64 (Ch.victimR cyc sys).2]) ∧ Below w.heap.size w w' := by
  have HL := h.ilen
  have HW := hid hw2
  have bA : Below w.heap.size w (w.alloc (.cells #[.int .i64 0, .int .i64 0] 32)) := (Below.refl _ _).alloc (Nat.le_refl _) _
  clear hw2
  by_cases h0 : n = 0
  · subst h0
    rw [Ch.vic_none (by have := HL.out; omega)]
    go_enter Try.func37, Try.ntmps37
    go_wp2
    exact bodyPost_ret (v := .agg #[.int .i64 4, .int .i64 0]) (by simp [results, Try.results37, go_sem]) rfl ⟨rfl, (Below.refl _ _).alloc (Nat.le_refl _) _⟩
  have hpos : 0 < n := by omega
  have hnz : ((n : Int) == 0) = false := by rw [beq_eq_false_iff_ne]; omega
  obtain ⟨rc, rv, HR⟩ : ∃ rc rv, Hid (Ch.victimR cyc sys = (rc, rv)) := ⟨_, _, rfl⟩
  rw [HR.out]
  simp only
  have hRow := heap_alloc_new w (.cells #[.int .i64 0, .int .i64 0] 32)
  clear h0
  go_enter Try.func37, Try.ntmps37
  go_wp2
  go_loop [14] (fun i => ∃ k : Nat, k ≤ n ∧ i = .int .i64 k ∧ Hid (∀ v ∈ cyc.take k, Ch.inB v 1 999 = true)) (fun i => n - (intOf i).toNat)
  case atStart => exact ⟨0, Nat.zero_le _, rfl, (fun v hv => by simp at hv)⟩
  case round =>
    obtain ⟨k, hk, rfl, HH⟩ := hrel
    obtain ⟨x0, x1, f0, f1⟩ := row2 hRow
    have lz : w.heap.size < (w.alloc (.cells #[.int .i64 0, .int .i64 0] 32)).heap.size := by simp
    by_cases hlt : k < n
    · have hkl : k < cyc.length := by have := HL.out; omega
      have HS := hid (fun he => Ch.vic_bad (sys := sys) hkl he)
      have HN := hid (fun he => Ch.txn_snoc hkl HH.out he)
      obtain ⟨b, off, rfl, hc0⟩ := (h.below bA).int hlt
      have hbl := lt_of_cell hc0
      generalize cyc.getD k 0 = z at *
      have IT := fun W => isTxn_any z W
      generalize w.alloc (.cells #[.int .i64 0, .int .i64 0] 32) = W0 at *
      cases ht : Ch.inB z 1 999
      all_goals rw [ht] at IT
      · obtain ⟨rfl, rfl⟩ : rc = 3 ∧ rv = 0 := by have := HR.out.symm.trans (HS.out ht); simpa using this
        go_wp2_with (go_at_call 98; refine (IT _).mono ?_; rintro e w' ⟨rfl, rfl⟩)
        exact bodyPost_ret (v := .agg #[.int .i64 3, .int .i64 0]) (by simp [results, Try.results37, go_sem, x0, x1]) rfl ⟨rfl, (bA.setCell (p := ⟨w.heap.size, 0, none⟩) (Nat.le_refl _) _).setCell (p := ⟨w.heap.size, 1, none⟩) (Nat.le_refl _) _⟩
      · go_wp2_with (go_at_call 98; refine (IT _).mono ?_; rintro e w' ⟨rfl, rfl⟩)
        go_round
        case rel => exact ⟨k + 1, by omega, by go_num, HN.out ht⟩
        case measure => simp [intOf]; omega
    · obtain rfl : k = n := by omega
      have HA : Hid (∀ v ∈ cyc, Ch.inB v 1 999 = true) := by have h1 := HH.out; have h2 := HL.out; rw [h2, List.take_length] at h1; exact h1
      have HZ := hid ((Ch.txn_at HA.out (k := 0) (by have := HL.out; omega)).1)
      have HV : Hid (Ch.victim cyc sys = if Ch.inB (Ch.both cyc sys) 1 999 then Ch.both cyc sys else Ch.maxL cyc) := rfl
      obtain ⟨rfl, HRV⟩ : rc = 0 ∧ rv = Ch.victim cyc sys := by have := HR.out.symm.trans (Ch.vic_ok (by have := HL.out; omega) HA.out); simpa using this
      replace HRV := hid HRV
      have IG := fun W hW hW2 => great_any a a2 k cap n2 cap2 cyc sys W hW hW2 hn hn2 HA.out HW.out
      have IM := fun W hW => slicesMax_any a k cap cyc W hW hn hpos (by have := HZ.out; omega)
      generalize w.alloc (.cells #[.int .i64 0, .int .i64 0] 32) = W0 at *
      generalize Ch.both cyc sys = v at *
      generalize Ch.maxL cyc = g at *
      generalize Ch.victim cyc sys = r at *
      have IT := fun W => isTxn_any v W
      clear HA HZ HH HL
      cases ht : Ch.inB v 1 999
      all_goals rw [ht] at IT HV
      · have e1 : Hid (r = g) := HV.out
        clear HV
        obtain rfl : rv = g := HRV.out.trans e1.out
        clear HRV e1
        go_wp2_with fail
        refine (IG _ (h.below bA) (h2.below bA)).mono ?_
        rintro e w1 ⟨rfl, b1⟩
        have hR1 := heap_below b1 hRow
        have b1' := bA.trans (b1.mono bA.size)
        obtain ⟨y0, y1, g0, g1⟩ := row2 hR1
        have ly := lt_of_cell y0
        clear x0 x1 f0 f1 lz hRow IG
        go_wp2_with fail
        refine (IT _).mono ?_
        rintro e w2 ⟨rfl, hw2⟩
        obtain rfl := hw2.symm
        go_wp2_with fail
        refine (IM _ (h.below b1')).mono ?_
        rintro e w3 ⟨rfl, hw3⟩
        obtain rfl := hw3.symm
        go_wp2
        exact bodyPost_ret (v := .agg #[.int .i64 0, .int .i64 _]) (by simp [results, Try.results37, go_sem, y0, y1]) rfl ⟨rfl, (b1'.setCell (p := ⟨w.heap.size, 0, none⟩) (Nat.le_refl _) _).setCell (p := ⟨w.heap.size, 1, none⟩) (Nat.le_refl _) _⟩
      · have e1 : Hid (r = v) := HV.out
        clear HV
        obtain rfl : rv = v := HRV.out.trans e1.out
        clear HRV e1
        go_wp2_with fail
        refine (IG _ (h.below bA) (h2.below bA)).mono ?_
        rintro e w1 ⟨rfl, b1⟩
        have hR1 := heap_below b1 hRow
        have b1' := bA.trans (b1.mono bA.size)
        obtain ⟨y0, y1, g0, g1⟩ := row2 hR1
        have ly := lt_of_cell y0
        clear x0 x1 f0 f1 lz hRow IG
        go_wp2_with fail
        refine (IT _).mono ?_
        rintro e w2 ⟨rfl, hw2⟩
        obtain rfl := hw2.symm
        go_wp2
        exact bodyPost_ret (v := .agg #[.int .i64 0, .int .i64 _]) (by simp [results, Try.results37, go_sem, y0, y1]) rfl ⟨rfl, (b1'.setCell (p := ⟨w.heap.size, 0, none⟩) (Nat.le_refl _) _).setCell (p := ⟨w.heap.size, 1, none⟩) (Nat.le_refl _) _⟩

set_option maxHeartbeats 2000000 in
theorem specVictim_any (a a2 : Option Addr) (n cap n2 cap2 : Nat) (cyc sys : List Int) (w : World) (h : CellsAt w a (n * 1) (icells cyc)) (h2 : CellsAt w a2 (n2 * 1) (icells sys)) (hn : n ≤ 1048576) (hn2 : n2 ≤ 1048576) :
    Calls Try.prog 38 #[.slice a n cap, .slice a2 n2 cap2] w fun e w' => e = .returned (.agg #[.int .i64 (Ch.victimR cyc sys).1, .int .i64 (Ch.victimR cyc sys).2]) ∧ Below w.heap.size w w' := by
  have HL := h.ilen
  have bA : Below w.heap.size w (w.alloc (.cells #[.int .i64 0, .int .i64 0] 32)) := (Below.refl _ _).alloc (Nat.le_refl _) _
  by_cases h0 : n = 0
  · subst h0
    rw [Ch.vic_none (by have := HL.out; omega)]
    go_enter Try.func38, Try.ntmps38
    go_wp2
    exact bodyPost_ret (v := .agg #[.int .i64 4, .int .i64 0]) (by simp [results, Try.results38, go_sem]) rfl ⟨rfl, (Below.refl _ _).alloc (Nat.le_refl _) _⟩
  have hpos : 0 < n := by omega
  have hnz : ((n : Int) == 0) = false := by rw [beq_eq_false_iff_ne]; omega
  obtain ⟨rc, rv, HR⟩ : ∃ rc rv, Hid (Ch.victimR cyc sys = (rc, rv)) := ⟨_, _, rfl⟩
  rw [HR.out]
  simp only
  have hRow := heap_alloc_new w (.cells #[.int .i64 0, .int .i64 0] 32)
  clear h0
  go_enter Try.func38, Try.ntmps38
  go_wp2
  go_loop [5] (fun i => ∃ k : Nat, k ≤ n ∧ i = .int .i64 k ∧ Hid (∀ v ∈ cyc.take k, Ch.inB v 1 999 = true)) (fun i => n - (intOf i).toNat)
  case atStart => exact ⟨0, Nat.zero_le _, rfl, (fun v hv => by simp at hv)⟩
  case round =>
    obtain ⟨k, hk, rfl, HH⟩ := hrel
    obtain ⟨x0, x1, f0, f1⟩ := row2 hRow
    have lz : w.heap.size < (w.alloc (.cells #[.int .i64 0, .int .i64 0] 32)).heap.size := by simp
    by_cases hlt : k < n
    · have hkl : k < cyc.length := by have := HL.out; omega
      have HS := hid (fun he => Ch.vic_bad (sys := sys) hkl he)
      have HN := hid (fun he => Ch.txn_snoc hkl HH.out he)
      obtain ⟨b, off, rfl, hc0⟩ := (h.below bA).int hlt
      have hbl := lt_of_cell hc0
      generalize cyc.getD k 0 = z at *
      have IT := fun W => l2Txn_any z W
      generalize w.alloc (.cells #[.int .i64 0, .int .i64 0] 32) = W0 at *
      cases ht : Ch.inB z 1 999
      all_goals rw [ht] at IT
      · obtain ⟨rfl, rfl⟩ : rc = 3 ∧ rv = 0 := by have := HR.out.symm.trans (HS.out ht); simpa using this
        go_wp2_with (go_at_call 94; refine (IT _).mono ?_; rintro e w' ⟨rfl, rfl⟩)
        exact bodyPost_ret (v := .agg #[.int .i64 3, .int .i64 0]) (by simp [results, Try.results38, go_sem, x0, x1]) rfl ⟨rfl, (bA.setCell (p := ⟨w.heap.size, 0, none⟩) (Nat.le_refl _) _).setCell (p := ⟨w.heap.size, 1, none⟩) (Nat.le_refl _) _⟩
      · go_wp2_with (go_at_call 94; refine (IT _).mono ?_; rintro e w' ⟨rfl, rfl⟩)
        go_round
        case rel => exact ⟨k + 1, by omega, by go_num, HN.out ht⟩
        case measure => simp [intOf]; omega
    · obtain rfl : k = n := by omega
      have HA : Hid (∀ v ∈ cyc, Ch.inB v 1 999 = true) := by have h1 := HH.out; have h2 := HL.out; rw [h2, List.take_length] at h1; exact h1
      obtain ⟨rfl, HRV⟩ : rc = 0 ∧ rv = Ch.victim cyc sys := by have := HR.out.symm.trans (Ch.vic_ok (by have := HL.out; omega) HA.out); simpa using this
      replace HRV := hid HRV
      have IG := fun W hW hW2 => l7Victim_any a a2 k cap n2 cap2 cyc sys W hW hW2 hn hn2
      rw [Ch.victim_is cyc sys HA.out] at IG
      generalize w.alloc (.cells #[.int .i64 0, .int .i64 0] 32) = W0 at *
      generalize Ch.victim cyc sys = r at *
      obtain rfl : rv = r := HRV.out
      clear HA HH HL HRV
      go_wp2_with fail
      refine (IG _ (h.below bA) (h2.below bA)).mono ?_
      rintro e w1 ⟨rfl, hw1⟩
      obtain rfl := hw1.symm
      go_wp2
      exact bodyPost_ret (v := .agg #[.int .i64 0, .int .i64 _]) (by simp [results, Try.results38, go_sem, x0, x1]) rfl ⟨rfl, (bA.setCell (p := ⟨w.heap.size, 0, none⟩) (Nat.le_refl _) _).setCell (p := ⟨w.heap.size, 1, none⟩) (Nat.le_refl _) _⟩

theorem made_ints (n : Nat) : (madeCells (Value.int .i64 0).cells (n * 1)).toList = icells (List.replicate n 0) := by
  rw [made_cells _ n 1 rfl (by decide) (fun _ => [.int .i64 0]) (fun _ => rfl)]
  induction n with
  | zero => rfl
  | succ n ih => rw [List.range_succ, List.flatMap_append, ih, List.replicate_succ', icells_append]; rfl
def icopied (zs : List Int) (n k : Nat) : List Value := icells (zs.take k ++ List.replicate (n - k) 0)
theorem icopied_end {zs : List Int} {n : Nat} (h : n = zs.length) : icopied zs n n = icells zs := by
  subst h; simp [icopied]
theorem icopied_set {zs : List Int} {n k : Nat} (h : n = zs.length) (hk : k < n) : (icopied zs n k).set k (.int .i64 (zs.getD k 0)) = icopied zs n (k + 1) := by
  unfold icopied
  rw [icells_set, fill_set zs _ _ n k h hk]

set_option maxHeartbeats 400000 in
theorem toInt64S_any (a : Option Addr) (n cap : Nat) (zs : List Int) (w : World) (h : CellsAt w a (n * 1) (icells zs)) (hn : n ≤ 1048576) :
    Calls Try.prog 53 #[.slice a n cap] w fun e w' => e = .returned (.slice (some ⟨w.heap.size, 0, none⟩) n n) ∧
      w'.ownsRow w.heap.size 2 1 (.slice (some ⟨w.heap.size, 0, none⟩) n n) n (icells zs) ∧ Below w.heap.size w w' := by
  have HL := h.ilen
  obtain ⟨i0, hi, hz0, hz1, hz2⟩ := info_parts Try.info2
  go_enter Try.func53, Try.ntmps53
  go_wp2_with (at_make; refine wpList_make_full _ rfl _ _ 27 rfl w.heap.size 2 i0 (.int .i64 0) 1 Try.underlying27 hi hz0 hz1 .i64 .i64 _ _ n rfl rfl rfl rfl (by rw [hz2]; omega) (by unfold maxLen; omega) (Nat.le_refl _) ?_; intro w0 hown0 hgrow0)
  have hB0 : Below w.heap.size w w0 := (Below.refl _ _).grown hgrow0 (Nat.le_refl _) (by simp)
  go_loopw [4] (fun i wr => ∃ k : Nat, k ≤ n ∧ i = .int .i64 k ∧ wr.ownsRow w.heap.size 2 1 (.slice (some ⟨w.heap.size, 0, none⟩) n n) n (icopied zs n k) ∧ Below w.heap.size w wr) (fun i _ => n - (intOf i).toNat)
  case atStart => exact ⟨0, Nat.zero_le _, rfl, by rw [made_ints] at hown0; simpa [icopied] using hown0, hB0⟩
  case round =>
    obtain ⟨k, hk, rfl, hown, hB⟩ := hrel
    by_cases hlt : k < n
    · obtain ⟨b, off, rfl, hc0⟩ := (h.below hB).int hlt
      have HC := hid (icopied_set HL.out hlt)
      have hbl := lt_of_cell hc0
      generalize zs.getD k 0 = z at *
      have hf0 := hown.frozenAt k
      obtain ⟨u0, hd0⟩ := owns_some hown (j := k) (by omega)
      go_wp2
      go_roundw
      case rel =>
        refine ⟨k + 1, by omega, by go_num, ?_, ?_⟩
        · rw [← HC.out]; exact (hown.stored _ _).1
        · exact hB.setCell (Nat.le_refl _) _
      case measure => simp [intOf]; omega
    · obtain rfl : k = n := by omega
      go_wp2
      go_ret
      exact ⟨rfl, by rw [icopied_end HL.out] at hown; exact hown, hB⟩
theorem toInt64S_at (H : Nat) (a : Option Addr) (n cap : Nat) (zs : List Int) (w : World) (hH : w.heap.size = H) (h : CellsAt w a (n * 1) (icells zs)) (hn : n ≤ 1048576) :
    Calls Try.prog 53 #[.slice a n cap] w fun e w' => e = .returned (.slice (some ⟨H, 0, none⟩) n n) ∧
      w'.ownsRow H 2 1 (.slice (some ⟨H, 0, none⟩) n n) n (icells zs) ∧ Below w.heap.size w w' := by
  subst hH
  exact toInt64S_any a n cap zs w h hn
end Go.Proofs.Ytbeolkklnlljcaa
