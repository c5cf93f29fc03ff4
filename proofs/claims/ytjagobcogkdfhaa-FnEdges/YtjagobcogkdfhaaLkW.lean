
/- Walks over one list of holds: places, modes, bounds, who fits, who stands twice (of the program and of the model). -/
import Derived.Test.YtjagobcogkdfhaaLkB
import Derived.Test.YtjagobcogkdfhaaModS
import Derived.Test.YtjagobcogkdfhaaRecZ
import Derived.Maps.OwnSet
import Derived.Maps.OwnOps
namespace Go.Proofs.Ytjagobcogkdfhaa
open Go.RowKit Go.Maps

theorem ret_bool {a b : Bool} (h : a = b) : Ending.returned (.bool a) = .returned (.bool b) := by rw [h]

set_option maxHeartbeats 400000 in
theorem placeOf_any (a : Option Addr) (n cap : Nat) (t : Int) (hs : List Ch.Hold) (w : World) (h : CellsAt w a (n * 2) (hcells hs)) (hn : n ≤ 1048576) :
    Calls Try.prog 195 #[.slice a n cap, .int .i64 t] w fun e w' => e = .returned (.int .i64 (Ch.atH hs t)) ∧ Below w.heap.size w w' := by
  have HL := h.hlen
  go_enter Try.func195, Try.ntmps195
  go_wp2
  go_loopw [9] (fun i wr => ∃ k : Nat, k ≤ n ∧ i = .int .i64 k ∧ Hid (Ch.hasH (hs.take k) t = false) ∧ Below w.heap.size w wr) (fun i _ => n - (intOf i).toNat)
  case atStart => exact ⟨0, Nat.zero_le _, rfl, rfl, Below.refl _ _⟩
  case round =>
    obtain ⟨k, hk, rfl, HH, hB⟩ := hrel
    by_cases hlt : k < n
    · have hkl : k < hs.length := by have := HL.out; omega
      have HS := hid (fun he => Ch.atH_some (t := t) hkl HH.out he)
      have HN := hid (fun he => Ch.any_snoc (p := fun (h : Ch.Hold) => h.t == t) Ch.Hold.zero hkl HH.out he)
      obtain ⟨b, off, rfl, q0, q1⟩ := (h.below hB).hold hlt
      have hbl := lt_of_cell q0
      generalize hs.getD k Ch.Hold.zero = r at *
      obtain ⟨rt, rm⟩ := r
      simp only at q0 q1 HS HN
      by_cases he : rt = t
      · subst he
        go_wp2
        go_ret
        exact ⟨ret_int (HS.out (by simp)).1.symm, hB.alloc hB.size _⟩
      · have he' : (rt == t) = false := by simpa using he
        go_wp2
        go_roundw
        case rel => exact ⟨k + 1, by omega, by go_num, HN.out he', hB.alloc hB.size _⟩
        case measure => simp [intOf]; omega
    · obtain rfl : k = n := by omega
      go_wp2
      go_ret
      exact ⟨ret_int (Ch.atH_none (by have h1 := HH.out; have h2 := HL.out; rw [h2, List.take_length] at h1; exact h1)).symm, hB⟩

set_option maxHeartbeats 400000 in
theorem l6At_any (a : Option Addr) (n cap : Nat) (t : Int) (hs : List Ch.Hold) (w : World) (h : CellsAt w a (n * 2) (hcells hs)) (hn : n ≤ 1048576) :
    Calls Try.prog 158 #[.slice a n cap, .int .i64 t] w fun e w' => e = .returned (.int .i64 (Ch.atH hs t)) ∧ w' = w := by
  have HL := h.hlen
  go_enter Try.func158, Try.ntmps158
  go_wp2
  go_loop [5] (fun i => ∃ k : Nat, k ≤ n ∧ i = .int .i64 k ∧ Hid (Ch.hasH (hs.take k) t = false)) (fun i => n - (intOf i).toNat)
  case atStart => exact ⟨0, Nat.zero_le _, rfl, rfl⟩
  case round =>
    obtain ⟨k, hk, rfl, HH⟩ := hrel
    by_cases hlt : k < n
    · have hkl : k < hs.length := by have := HL.out; omega
      have HS := hid (fun he => Ch.atH_some (t := t) hkl HH.out he)
      have HN := hid (fun he => Ch.any_snoc (p := fun (h : Ch.Hold) => h.t == t) Ch.Hold.zero hkl HH.out he)
      obtain ⟨b, off, rfl, q0, q1⟩ := h.hold hlt
      have hbl := lt_of_cell q0
      generalize hs.getD k Ch.Hold.zero = r at *
      obtain ⟨rt, rm⟩ := r
      simp only at q0 q1 HS HN
      by_cases he : rt = t
      · subst he
        go_wp2
        go_ret
        exact ⟨ret_int (HS.out (by simp)).1.symm, rfl⟩
      · have he' : (rt == t) = false := by simpa using he
        go_wp2
        go_round
        case rel => exact ⟨k + 1, by omega, by go_num, HN.out he'⟩
        case measure => simp [intOf]; omega
    · obtain rfl : k = n := by omega
      go_wp2
      go_ret
      exact ⟨ret_int (Ch.atH_none (by have h1 := HH.out; have h2 := HL.out; rw [h2, List.take_length] at h1; exact h1)).symm, rfl⟩

theorem has_any (a : Option Addr) (n cap : Nat) (t : Int) (hs : List Ch.Hold) (w : World) (h : CellsAt w a (n * 2) (hcells hs)) (hn : n ≤ 1048576) :
    Calls Try.prog 161 #[.slice a n cap, .int .i64 t] w fun e w' => e = .returned (.bool (Ch.hasH hs t)) ∧ Below w.heap.size w w' := by
  rcases Ch.atH_cases hs t with ⟨h1, h2, _⟩ | ⟨k, hk, h2, h1, _⟩
  all_goals
    rw [h1]
    go_enter Try.func161, Try.ntmps161
    go_wp2_with fail
    refine (placeOf_any a n cap t hs _ h hn).mono ?_
    rintro e w1 ⟨rfl, b1⟩
    rw [h2]
    clear h1 h2
    go_wp2
    go_ret
    exact ⟨by simp, b1⟩

theorem modeOf_any (a : Option Addr) (n cap : Nat) (t : Int) (hs : List Ch.Hold) (w : World) (h : CellsAt w a (n * 2) (hcells hs)) (hn : n ≤ 1048576) :
    Calls Try.prog 216 #[.slice a n cap, .int .i64 t] w fun e w' => e = .returned (.int .i64 (Ch.modeH hs t)) ∧ Below w.heap.size w w' := by
  have HL := h.hlen
  rcases Ch.atH_cases hs t with ⟨h1, h2, h3⟩ | ⟨k, hk, h2, h1, _, h3⟩
  · rw [h3]
    go_enter Try.func216, Try.ntmps216
    go_wp2_with fail
    refine (placeOf_any a n cap t hs _ h hn).mono ?_
    rintro e w1 ⟨rfl, b1⟩
    rw [h2]
    clear h1 h2 h3
    go_wp2
    go_ret
    exact ⟨rfl, b1⟩
  · rw [h3]
    have hkn : k < n := by have := HL.out; omega
    obtain ⟨r, HR⟩ : ∃ r, Hid (hs.getD k Ch.Hold.zero = r) := ⟨_, rfl⟩
    rw [HR.out]
    go_enter Try.func216, Try.ntmps216
    go_wp2_with fail
    refine (placeOf_any a n cap t hs _ h hn).mono ?_
    rintro e w1 ⟨rfl, b1⟩
    rw [h2]
    obtain ⟨b, off, rfl, q0, q1⟩ := (h.below b1).hold hkn
    have hbl := lt_of_cell q0
    rw [HR.out] at q1
    clear h1 h2 h3 q0 hk HR
    go_wp2
    go_ret
    exact ⟨rfl, b1⟩

theorem heldMode_any (m : Int) (w : World) :
    Calls Try.prog 213 #[.int .i64 m] w fun e w' => e = .returned (.bool (Ch.inB m 1 5)) ∧ w' = w := by
  cases hm : Ch.isM m
  · have e : Ch.inB m 1 5 = false := by unfold Ch.isM Ch.inB at *; simp at *; omega
    rw [e]
    go_enter Try.func213, Try.ntmps213
    go_wp2_with (go_at_call 185; refine (isModeAt hm _).mono ?_; rintro e w' ⟨rfl, rfl⟩)
    go_ret
    exact ⟨rfl, rfl⟩
  · have e : Ch.inB m 1 5 = (m != 0) := by
      unfold Ch.isM Ch.inB at *
      simp at hm
      by_cases h0 : m = 0
      · subst h0; rfl
      · have : (m != 0) = true := by simpa using h0
        rw [this]; simp; omega
    rw [e]
    go_enter Try.func213, Try.ntmps213
    go_wp2_with (go_at_call 185; refine (isModeAt hm _).mono ?_; rintro e w' ⟨rfl, rfl⟩)
    go_ret
    exact ⟨rfl, rfl⟩
/-- REST -/
theorem hcells_take (hs : List Ch.Hold) (k : Nat) : hcells (hs.take k) = (hcells hs).take (k * 2) := by
  induction hs generalizing k with
  | nil => simp [hcells]
  | cons r rs ih =>
    cases k with
    | zero => simp [hcells]
    | succ k =>
      have := ih k
      simp only [hcells, List.take_succ_cons, List.flatMap_cons] at *
      rw [this, show (k + 1) * 2 = k * 2 + 1 + 1 by omega]
      simp
theorem CellsAt.htake {w : World} {a : Option Addr} {n : Nat} {hs : List Ch.Hold} (h : CellsAt w a (n * 2) (hcells hs)) {k : Nat} (hk : k ≤ n) : CellsAt w a (k * 2) (hcells (hs.take k)) := by
  rw [hcells_take]
  refine ⟨by rw [List.length_take, h.1]; omega, fun h0 => ?_⟩
  obtain ⟨b, off, ha, hc⟩ := h.2 (by omega)
  refine ⟨b, off, ha, fun i hi => ?_⟩
  rw [hc i (by omega), List.getElem?_take, if_pos hi]

theorem inBounds_any (a : Option Addr) (n cap : Nat) (hs : List Ch.Hold) (w : World) (h : CellsAt w a (n * 2) (hcells hs)) (hn : n ≤ 1048576) :
    Calls Try.prog 181 #[.slice a n cap] w fun e w' => e = .returned (.bool (Ch.namesH hs)) ∧ Below w.heap.size w w' := by
  have HL := h.hlen
  go_enter Try.func181, Try.ntmps181
  go_wp2
  go_loopw [7] (fun i wr => ∃ k : Nat, k ≤ n ∧ i = .int .i64 k ∧ Hid (Ch.namesH (hs.take k) = true) ∧ Below w.heap.size w wr) (fun i _ => n - (intOf i).toNat)
  case atStart => exact ⟨0, Nat.zero_le _, rfl, rfl, Below.refl _ _⟩
  case round =>
    obtain ⟨k, hk, rfl, HH, hB⟩ := hrel
    by_cases hlt : k < n
    · have hkl : k < hs.length := by have := HL.out; omega
      have HS := hid (fun he => Ch.all_false (p := Ch.nameH) Ch.Hold.zero hkl he)
      have HN := hid (fun he => Ch.all_snoc (p := Ch.nameH) Ch.Hold.zero hkl HH.out he)
      obtain ⟨b, off, rfl, q0, q1⟩ := (h.below hB).hold hlt
      have hbl := lt_of_cell q0
      generalize hs.getD k Ch.Hold.zero = r at *
      obtain ⟨rt, rm⟩ := r
      simp only [Ch.nameH] at q0 q1 HS HN
      have IT := fun W => isTxn_any rt W
      have IM := fun W => heldMode_any rm W
      cases ht : Ch.inB rt 1 999
      all_goals cases hm : Ch.inB rm 1 5
      all_goals rw [ht] at IT
      all_goals rw [hm] at IM
      all_goals go_wp2_with (first | (go_at_call 119; refine (IT _).mono ?_; rintro e w' ⟨rfl, rfl⟩) | (go_at_call 213; refine (IM _).mono ?_; rintro e w' ⟨rfl, rfl⟩))
      iterate 3
        · go_ret
          exact ⟨ret_bool (HS.out (by rw [ht, hm]; rfl)).symm, hB.alloc hB.size _⟩
      · go_roundw
        case rel => exact ⟨k + 1, by omega, by go_num, HN.out (by rw [ht, hm]; rfl), hB.alloc hB.size _⟩
        case measure => simp [intOf]; omega
    · obtain rfl : k = n := by omega
      go_wp2
      go_ret
      exact ⟨ret_bool (by have h1 := HH.out; have h2 := HL.out; rw [h2, List.take_length] at h1; exact h1.symm), hB⟩

theorem l6Names_any (a : Option Addr) (n cap : Nat) (hs : List Ch.Hold) (w : World) (h : CellsAt w a (n * 2) (hcells hs)) (hn : n ≤ 1048576) :
    Calls Try.prog 190 #[.slice a n cap] w fun e w' => e = .returned (.int .i64 (Ch.nameC hs)) ∧ w' = w := by
  have HL := h.hlen
  go_enter Try.func190, Try.ntmps190
  go_wp2
  go_loop [3] (fun i => ∃ k : Nat, k ≤ n ∧ i = .int .i64 k ∧ Hid (Ch.namesH (hs.take k) = true)) (fun i => n - (intOf i).toNat)
  case atStart => exact ⟨0, Nat.zero_le _, rfl, rfl⟩
  case round =>
    obtain ⟨k, hk, rfl, HH⟩ := hrel
    by_cases hlt : k < n
    · have hkl : k < hs.length := by have := HL.out; omega
      have HS := hid (fun he => Ch.all_false (p := Ch.nameH) Ch.Hold.zero hkl he)
      have HN := hid (fun he => Ch.all_snoc (p := Ch.nameH) Ch.Hold.zero hkl HH.out he)
      obtain ⟨b, off, rfl, q0, q1⟩ := h.hold hlt
      have hbl := lt_of_cell q0
      generalize hs.getD k Ch.Hold.zero = r at *
      obtain ⟨rt, rm⟩ := r
      simp only [Ch.nameH] at q0 q1 HS HN
      have IT := fun W => l2Txn_any rt W
      have IM := fun W => in_any rm 1 5 W
      cases ht : Ch.inB rt 1 999
      all_goals cases hm : Ch.inB rm 1 5
      all_goals rw [ht] at IT
      all_goals rw [hm] at IM
      all_goals go_wp2_with (first | (go_at_call 102; refine (IT _).mono ?_; rintro e w' ⟨rfl, rfl⟩) | (go_at_call 145; refine (IM _).mono ?_; rintro e w' ⟨rfl, rfl⟩))
      iterate 3
        · go_ret
          exact ⟨ret_int (Ch.nameC_bad (HS.out (by rw [ht, hm]; rfl))).symm, rfl⟩
      · go_round
        case rel => exact ⟨k + 1, by omega, by go_num, HN.out (by rw [ht, hm]; rfl)⟩
        case measure => simp [intOf]; omega
    · obtain rfl : k = n := by omega
      go_wp2
      go_ret
      exact ⟨ret_int (Ch.nameC_ok (by have h1 := HH.out; have h2 := HL.out; rw [h2, List.take_length] at h1; exact h1)).symm, rfl⟩

set_option maxHeartbeats 400000 in
theorem fitOthers_any (a : Option Addr) (n cap : Nat) (t m : Int) (hs : List Ch.Hold) (w : World) (h : CellsAt w a (n * 2) (hcells hs)) (hn : n ≤ 1048576) :
    Calls Try.prog 214 #[.slice a n cap, .agg #[.int .i64 t, .int .i64 m]] w fun e w' => e = .returned (.bool (Ch.fitsH hs t m)) ∧ Below w.heap.size w w' := by
  have HL := h.hlen
  have bA : Below w.heap.size w (w.alloc (.cells #[.int .i64 t, .int .i64 m] 131)) := (Below.refl _ _).alloc (Nat.le_refl _) _
  have y0 : (w.alloc (.cells #[.int .i64 t, .int .i64 m] 131)).cell? ⟨w.heap.size, 0, none⟩ = some (.int .i64 t) := by simp [go_sem]
  have y1 : (w.alloc (.cells #[.int .i64 t, .int .i64 m] 131)).cell? ⟨w.heap.size, 1, none⟩ = some (.int .i64 m) := by simp [go_sem]
  have ll : w.heap.size < (w.alloc (.cells #[.int .i64 t, .int .i64 m] 131)).heap.size := by simp
  go_enter Try.func214, Try.ntmps214
  go_wp2
  go_loopw [9] (fun i wr => ∃ k : Nat, k ≤ n ∧ i = .int .i64 k ∧ Hid (Ch.fitsH (hs.take k) t m = true) ∧ wr.cell? ⟨w.heap.size, 0, none⟩ = some (.int .i64 t) ∧ wr.cell? ⟨w.heap.size, 1, none⟩ = some (.int .i64 m) ∧ w.heap.size < wr.heap.size ∧ Below w.heap.size w wr) (fun i _ => n - (intOf i).toNat)
  case atStart => exact ⟨0, Nat.zero_le _, rfl, rfl, y0, y1, ll, bA⟩
  case round =>
    clear y0 y1 bA ll
    obtain ⟨k, hk, rfl, HH, y0, y1, ll, hB⟩ := hrel
    by_cases hlt : k < n
    · have hkl : k < hs.length := by have := HL.out; omega
      have HS := hid (fun he => Ch.all_false (p := fun (h : Ch.Hold) => h.t == t || Ch.fits h.m m) Ch.Hold.zero hkl he)
      have HN := hid (fun he => Ch.all_snoc (p := fun (h : Ch.Hold) => h.t == t || Ch.fits h.m m) Ch.Hold.zero hkl HH.out he)
      obtain ⟨b, off, rfl, q0, q1⟩ := (h.below hB).hold hlt
      have hbl := lt_of_cell q0
      generalize hs.getD k Ch.Hold.zero = r at *
      obtain ⟨rt, rm⟩ := r
      simp only at q0 q1 HS HN
      have bW : ∀ o, Below w.heap.size w (wr.alloc o) := fun o => hB.alloc hB.size o
      have kA : ∀ o, Below wr.heap.size wr (wr.alloc o) := fun o => (Below.refl _ _).alloc (Nat.le_refl _) o
      have hll : ¬ wr.heap.size = w.heap.size := by omega
      have IT := fun W => implFit_any rm m W
      rw [show (Ch.isM rm && Ch.isM m && Ch.tab Ch.fitT rm m) = Ch.fits rm m from rfl] at IT
      by_cases he : rt = t
      · subst he
        go_wp2
        go_roundw
        case rel => exact ⟨k + 1, by omega, by go_num, HN.out (by simp), keep_cell (kA _) y0, keep_cell (kA _) y1, by simp; omega, bW _⟩
        case measure => simp [intOf]; omega
      · have he' : (rt == t) = false := by simpa using he
        have hne' : (rt != t) = true := by simpa using he
        cases hf : Ch.fits rm m
        all_goals rw [hf] at IT
        · go_wp2_with fail
          refine (IT _).mono ?_
          rintro e w1 ⟨rfl, b1⟩
          go_wp2
          go_ret
          exact ⟨ret_bool (HS.out (by rw [he', hf]; rfl)).symm, (bW _).trans (b1.mono (bW _).size)⟩
        · go_wp2_with fail
          refine (IT _).mono ?_
          rintro e w1 ⟨rfl, b1⟩
          go_wp2
          have b1' := (kA _).trans (b1.mono (kA _).size)
          go_roundw
          case rel => exact ⟨k + 1, by omega, by go_num, HN.out (by rw [he', hf]; rfl), keep_cell b1' y0, keep_cell b1' y1, Nat.lt_of_lt_of_le ll b1'.size, (bW _).trans (b1.mono (bW _).size)⟩
          case measure => simp [intOf]; omega
    · obtain rfl : k = n := by omega
      go_wp2
      go_ret
      exact ⟨ret_bool (by have h1 := HH.out; have h2 := HL.out; rw [h2, List.take_length] at h1; exact h1.symm), hB⟩

set_option maxHeartbeats 400000 in
theorem l6Fits_any (a : Option Addr) (n cap : Nat) (t m : Int) (hs : List Ch.Hold) (w : World) (h : CellsAt w a (n * 2) (hcells hs)) (hn : n ≤ 1048576) (hg : Ch.namesH hs = true) (hm : Ch.isM m = true) :
    Calls Try.prog 192 #[.slice a n cap, .int .i64 t, .int .i64 m] w fun e w' => e = .returned (.bool (Ch.fitsH hs t m)) ∧ w' = w := by
  have HL := h.hlen
  have HG := hid hg
  clear hg
  go_enter Try.func192, Try.ntmps192
  go_wp2
  go_loop [7] (fun i => ∃ k : Nat, k ≤ n ∧ i = .int .i64 k ∧ Hid (Ch.fitsH (hs.take k) t m = true)) (fun i => n - (intOf i).toNat)
  case atStart => exact ⟨0, Nat.zero_le _, rfl, rfl⟩
  case round =>
    obtain ⟨k, hk, rfl, HH⟩ := hrel
    by_cases hlt : k < n
    · have hkl : k < hs.length := by have := HL.out; omega
      have HS := hid (fun he => Ch.all_false (p := fun (h : Ch.Hold) => h.t == t || Ch.fits h.m m) Ch.Hold.zero hkl he)
      have HN := hid (fun he => Ch.all_snoc (p := fun (h : Ch.Hold) => h.t == t || Ch.fits h.m m) Ch.Hold.zero hkl HH.out he)
      have HM := hid (Ch.name_mode (Ch.names_at HG.out hkl)).1
      obtain ⟨b, off, rfl, q0, q1⟩ := h.hold hlt
      have hbl := lt_of_cell q0
      generalize hs.getD k Ch.Hold.zero = r at *
      obtain ⟨rt, rm⟩ := r
      simp only at q0 q1 HS HN HM
      have IT := fun W => l5Fit_any rm m W HM.out hm
      have HF : Hid (Ch.fits rm m = Ch.tab Ch.fitT rm m) := by show _ = _; unfold Ch.fits; rw [HM.out, hm]; rfl
      by_cases he : rt = t
      · subst he
        go_wp2
        go_round
        case rel => exact ⟨k + 1, by omega, by go_num, HN.out (by simp)⟩
        case measure => simp [intOf]; omega
      · have he' : (rt == t) = false := by simpa using he
        have hne' : (rt != t) = true := by simpa using he
        cases hf : Ch.tab Ch.fitT rm m
        all_goals rw [hf] at IT
        · go_wp2_with (go_at_call 159; refine (IT _).mono ?_; rintro e w' ⟨rfl, rfl⟩)
          go_ret
          exact ⟨ret_bool (HS.out (by rw [he', HF.out, hf]; rfl)).symm, rfl⟩
        · go_wp2_with (go_at_call 159; refine (IT _).mono ?_; rintro e w' ⟨rfl, rfl⟩)
          go_round
          case rel => exact ⟨k + 1, by omega, by go_num, HN.out (by rw [he', HF.out, hf]; rfl)⟩
          case measure => simp [intOf]; omega
    · obtain rfl : k = n := by omega
      go_wp2
      go_ret
      exact ⟨ret_bool (by have h1 := HH.out; have h2 := HL.out; rw [h2, List.take_length] at h1; exact h1.symm), rfl⟩

theorem allFit_any (a : Option Addr) (n cap : Nat) (hs : List Ch.Hold) (w : World) (h : CellsAt w a (n * 2) (hcells hs)) (hn : n ≤ 1048576) :
    Calls Try.prog 183 #[.slice a n cap] w fun e w' => e = .returned (.bool (Ch.allFit' hs)) ∧ Below w.heap.size w w' := by
  have HL := h.hlen
  go_enter Try.func183, Try.ntmps183
  go_wp2
  go_loopw [7] (fun i wr => ∃ k : Nat, k ≤ n ∧ i = .int .i64 k ∧ Hid ((hs.take k).all (fun h => Ch.fitsH hs h.t h.m) = true) ∧ Below w.heap.size w wr) (fun i _ => n - (intOf i).toNat)
  case atStart => exact ⟨0, Nat.zero_le _, rfl, rfl, Below.refl _ _⟩
  case round =>
    obtain ⟨k, hk, rfl, HH, hB⟩ := hrel
    by_cases hlt : k < n
    · have hkl : k < hs.length := by have := HL.out; omega
      have HS := hid (fun he => Ch.all_false (p := fun (h : Ch.Hold) => Ch.fitsH hs h.t h.m) Ch.Hold.zero hkl he)
      have HN := hid (fun he => Ch.all_snoc (p := fun (h : Ch.Hold) => Ch.fitsH hs h.t h.m) Ch.Hold.zero hkl HH.out he)
      have h1 := h.below hB
      obtain ⟨b, off, rfl, q0, q1⟩ := h1.hold hlt
      have hbl := lt_of_cell q0
      generalize hs.getD k Ch.Hold.zero = r at *
      obtain ⟨rt, rm⟩ := r
      simp only at q0 q1 HS HN
      have kA : ∀ o, Below wr.heap.size wr (wr.alloc o) := fun o => (Below.refl _ _).alloc (Nat.le_refl _) o
      have IT := fun W hW => fitOthers_any (some ⟨b, off, none⟩) n cap rt rm hs W hW hn
      cases hf : Ch.fitsH hs rt rm
      all_goals rw [hf] at IT
      · go_wp2_with fail
        refine (IT _ (h1.below (kA _))).mono ?_
        rintro e w1 ⟨rfl, b1⟩
        go_wp2
        go_ret
        exact ⟨ret_bool (HS.out hf).symm, (hB.alloc hB.size _).trans (b1.mono (hB.alloc hB.size _).size)⟩
      · go_wp2_with fail
        refine (IT _ (h1.below (kA _))).mono ?_
        rintro e w1 ⟨rfl, b1⟩
        go_wp2
        go_roundw
        case rel => exact ⟨k + 1, by omega, by go_num, HN.out hf, (hB.alloc hB.size _).trans (b1.mono (hB.alloc hB.size _).size)⟩
        case measure => simp [intOf]; omega
    · obtain rfl : k = n := by omega
      go_wp2
      go_ret
      exact ⟨ret_bool (by have h1 := HH.out; have h2 := HL.out; rw [h2, List.take_length] at h1; exact h1.symm), hB⟩

theorem l6Twice_any (a : Option Addr) (n cap : Nat) (hs : List Ch.Hold) (w : World) (h : CellsAt w a (n * 2) (hcells hs)) (hn : n ≤ 1048576) (hcap : n ≤ cap) :
    Calls Try.prog 191 #[.slice a n cap] w fun e w' => e = .returned (.bool (Ch.twice hs)) ∧ Below w.heap.size w w' := by
  have HL := h.hlen
  go_enter Try.func191, Try.ntmps191
  go_wp2
  go_loopw [3] (fun i wr => ∃ k : Nat, k ≤ n ∧ i = .int .i64 k ∧ Hid (Ch.twiceAt hs k = false) ∧ Below w.heap.size w wr) (fun i _ => n - (intOf i).toNat)
  case atStart => exact ⟨0, Nat.zero_le _, rfl, rfl, Below.refl _ _⟩
  case round =>
    obtain ⟨k, hk, rfl, HH, hB⟩ := hrel
    by_cases hlt : k < n
    · have hkl : k < hs.length := by have := HL.out; omega
      have HS := hid (fun he => Ch.twice_hit hkl he)
      have HN := hid (fun he => Ch.twiceAt_next (k := k) HH.out he)
      have h1 := h.below hB
      have hT := h1.htake hk
      obtain ⟨b, off, rfl, q0, q1⟩ := h1.hold hlt
      have hbl := lt_of_cell q0
      generalize hs.getD k Ch.Hold.zero = r at *
      obtain ⟨rt, rm⟩ := r
      simp only at q0 q1 HS HN
      have hkc : k ≤ cap := by omega
      clear q1
      rcases Ch.atH_cases (hs.take k) rt with ⟨he, HAT, _⟩ | ⟨j, hj, HAT, he, _⟩
      · have HA := hid he
        clear he
        go_wp2_with fail
        refine wp_region_noPanic ?_
        refine wp_region_held_drew (S := fun W' => W'.cell? ⟨b, off + k * 2, none⟩ = some (.int .i64 rt) ∧ CellsAt W' (some ⟨b, off, none⟩) (k * 2) (hcells (hs.take k)) ∧ Below w.heap.size w W') (by kernel_rfl) (⟨q0, hT, hB.drew⟩) (fun hH => ?_)
        refine hTake (i := 0) (v := ?_) rfl (by kernel_rfl) (by kernel_rfl) (by kernel_rfl) (by rfl) ?_ hH ?_
        rotate_left
        · intro W hW; (try dsimp only at hW); go_simp <;> with_reducible rfl
        simp only [Act.put, List.setIfInBounds_toArray, List.set_cons_zero, List.set_cons_succ]
        refine hTake (i := 1) (v := ?_) rfl (by kernel_rfl) (by kernel_rfl) (by kernel_rfl) (by rfl) ?_ hH ?_
        rotate_left
        · intro W hW; (try dsimp only at hW); go_simp <;> with_reducible rfl
        simp only [Act.put, List.setIfInBounds_toArray, List.set_cons_zero, List.set_cons_succ]
        refine hTake (i := 2) (v := ?_) rfl (by kernel_rfl) (by kernel_rfl) (by kernel_rfl) (by rfl) ?_ hH ?_
        rotate_left
        · intro W hW; (try dsimp only at hW); go_simp <;> with_reducible rfl
        simp only [Act.put, List.setIfInBounds_toArray, List.set_cons_zero, List.set_cons_succ]
        refine hTake (i := 3) (v := ?_) rfl (by kernel_rfl) (by kernel_rfl) (by kernel_rfl) (by rfl) ?_ hH ?_
        rotate_left
        · intro W hW; (try dsimp only at hW); go_simp <;> with_reducible rfl
        simp only [Act.put, List.setIfInBounds_toArray, List.set_cons_zero, List.set_cons_succ]
        refine hTake (i := 4) (v := ?_) rfl (by kernel_rfl) (by kernel_rfl) (by kernel_rfl) (by rfl) ?_ hH ?_
        rotate_left
        · intro W hW; (try dsimp only at hW); go_simp <;> with_reducible rfl
        simp only [Act.put, List.setIfInBounds_toArray, List.set_cons_zero, List.set_cons_succ]
        refine hTake (i := 5) (v := ?_) rfl (by kernel_rfl) (by kernel_rfl) (by kernel_rfl) (by rfl) ?_ hH ?_
        rotate_left
        · intro W hW; (try dsimp only at hW); go_simp <;> with_reducible rfl
        simp only [Act.put, List.setIfInBounds_toArray, List.set_cons_zero, List.set_cons_succ]
        refine hTake (i := 6) (v := ?_) rfl (by kernel_rfl) (by kernel_rfl) (by kernel_rfl) (by rfl) ?_ hH ?_
        rotate_left
        · intro W hW; (try dsimp only at hW); go_simp <;> with_reducible rfl
        simp only [Act.put, List.setIfInBounds_toArray, List.set_cons_zero, List.set_cons_succ]
        refine hTake (i := 7) (v := ?_) rfl (by kernel_rfl) (by kernel_rfl) (by kernel_rfl) (by rfl) ?_ hH ?_
        rotate_left
        · intro W hW; (try dsimp only at hW); go_simp <;> with_reducible rfl
        simp only [Act.put, List.setIfInBounds_toArray, List.set_cons_zero, List.set_cons_succ]
        refine wpAnyH_ready (rs := [8]) (by kernel_rfl) (by simp) ?_
        refine AllReadyH.cons rfl (fun K hK => ?_) AllReadyH.nil
        go_simp
        refine (l6At_any _ k _ rt (hs.take k) _ hH.2.1 (by omega)).mono ?_
        rintro e w2 ⟨rfl, rfl⟩
        rw [HAT]
        go_wp2_with fail
        refine hK.out _ _ ?_ (fun hH => ?_)
        · exact hH
        clear hK K
        refine hTake (i := 9) (v := ?_) rfl (by kernel_rfl) (by kernel_rfl) (by kernel_rfl) (by rfl) ?_ hH ?_
        rotate_left
        · intro W hW; (try dsimp only at hW); go_simp <;> with_reducible rfl
        simp only [Act.put, List.setIfInBounds_toArray, List.set_cons_zero, List.set_cons_succ]
        refine wpAnyH_done (by kernel_rfl) ?_ _
        refine NoPanic.normal ?_
        go_wp2
        go_roundw
        case rel => exact ⟨k + 1, by omega, by go_num, HN.out HA.out, hH.2.2⟩
        case measure => simp [intOf]; omega
      · have HA := hid he
        clear he
        go_wp2_with fail
        refine wp_region_noPanic ?_
        refine wp_region_held_drew (S := fun W' => W'.cell? ⟨b, off + k * 2, none⟩ = some (.int .i64 rt) ∧ CellsAt W' (some ⟨b, off, none⟩) (k * 2) (hcells (hs.take k)) ∧ Below w.heap.size w W') (by kernel_rfl) (⟨q0, hT, hB.drew⟩) (fun hH => ?_)
        refine hTake (i := 0) (v := ?_) rfl (by kernel_rfl) (by kernel_rfl) (by kernel_rfl) (by rfl) ?_ hH ?_
        rotate_left
        · intro W hW; (try dsimp only at hW); go_simp <;> with_reducible rfl
        simp only [Act.put, List.setIfInBounds_toArray, List.set_cons_zero, List.set_cons_succ]
        refine hTake (i := 1) (v := ?_) rfl (by kernel_rfl) (by kernel_rfl) (by kernel_rfl) (by rfl) ?_ hH ?_
        rotate_left
        · intro W hW; (try dsimp only at hW); go_simp <;> with_reducible rfl
        simp only [Act.put, List.setIfInBounds_toArray, List.set_cons_zero, List.set_cons_succ]
        refine hTake (i := 2) (v := ?_) rfl (by kernel_rfl) (by kernel_rfl) (by kernel_rfl) (by rfl) ?_ hH ?_
        rotate_left
        · intro W hW; (try dsimp only at hW); go_simp <;> with_reducible rfl
        simp only [Act.put, List.setIfInBounds_toArray, List.set_cons_zero, List.set_cons_succ]
        refine hTake (i := 3) (v := ?_) rfl (by kernel_rfl) (by kernel_rfl) (by kernel_rfl) (by rfl) ?_ hH ?_
        rotate_left
        · intro W hW; (try dsimp only at hW); go_simp <;> with_reducible rfl
        simp only [Act.put, List.setIfInBounds_toArray, List.set_cons_zero, List.set_cons_succ]
        refine hTake (i := 4) (v := ?_) rfl (by kernel_rfl) (by kernel_rfl) (by kernel_rfl) (by rfl) ?_ hH ?_
        rotate_left
        · intro W hW; (try dsimp only at hW); go_simp <;> with_reducible rfl
        simp only [Act.put, List.setIfInBounds_toArray, List.set_cons_zero, List.set_cons_succ]
        refine hTake (i := 5) (v := ?_) rfl (by kernel_rfl) (by kernel_rfl) (by kernel_rfl) (by rfl) ?_ hH ?_
        rotate_left
        · intro W hW; (try dsimp only at hW); go_simp <;> with_reducible rfl
        simp only [Act.put, List.setIfInBounds_toArray, List.set_cons_zero, List.set_cons_succ]
        refine hTake (i := 6) (v := ?_) rfl (by kernel_rfl) (by kernel_rfl) (by kernel_rfl) (by rfl) ?_ hH ?_
        rotate_left
        · intro W hW; (try dsimp only at hW); go_simp <;> with_reducible rfl
        simp only [Act.put, List.setIfInBounds_toArray, List.set_cons_zero, List.set_cons_succ]
        refine hTake (i := 7) (v := ?_) rfl (by kernel_rfl) (by kernel_rfl) (by kernel_rfl) (by rfl) ?_ hH ?_
        rotate_left
        · intro W hW; (try dsimp only at hW); go_simp <;> with_reducible rfl
        simp only [Act.put, List.setIfInBounds_toArray, List.set_cons_zero, List.set_cons_succ]
        refine wpAnyH_ready (rs := [8]) (by kernel_rfl) (by simp) ?_
        refine AllReadyH.cons rfl (fun K hK => ?_) AllReadyH.nil
        go_simp
        refine (l6At_any _ k _ rt (hs.take k) _ hH.2.1 (by omega)).mono ?_
        rintro e w2 ⟨rfl, rfl⟩
        rw [HAT]
        go_wp2_with fail
        refine hK.out _ _ ?_ (fun hH => ?_)
        · exact hH
        clear hK K
        refine hTake (i := 9) (v := ?_) rfl (by kernel_rfl) (by kernel_rfl) (by kernel_rfl) (by rfl) ?_ hH ?_
        rotate_left
        · intro W hW; (try dsimp only at hW); go_simp <;> with_reducible rfl
        simp only [Act.put, List.setIfInBounds_toArray, List.set_cons_zero, List.set_cons_succ]
        refine wpAnyH_done (by kernel_rfl) ?_ _
        refine NoPanic.normal ?_
        go_wp2
        go_ret
        exact ⟨ret_bool (HS.out HA.out).symm, hH.2.2⟩
    · obtain rfl : k = n := by omega
      go_wp2
      go_ret
      exact ⟨ret_bool (by have h1 := HH.out; have h2 := HL.out; unfold Ch.twice; rw [← h2]; exact h1.symm), hB⟩

end Go.Proofs.Ytjagobcogkdfhaa
