
/- FindRow of the model and of the program. -/
import Derived.Test.YthfanfnbjldddaaGreatPlaceW
import Derived.Test.YthfanfnbjldddaaGreatForI
import Derived.Test.YthfanfnbjldddaaGreatScanW
namespace Go.Proofs.YthfanfnbjldddaaGreat
open Go.RowKit Go.Maps

/-- What FindRow answers. -/
def Ch.findRR (ls : List (List Ch.Row)) (key : Int) : Int × List Ch.Row :=
  if asked ls key != 0 then (asked ls key, []) else match findR ls key with
    | none => (4, [])
    | some r => (0, [r])
theorem Ch.findRR_code {ls : List (List Ch.Row)} {key : Int} (h : (asked ls key != 0) = true) : findRR ls key = (asked ls key, []) := by rw [findRR, if_pos h]
theorem Ch.findRR_none {ls : List (List Ch.Row)} {key : Int} (h : (asked ls key != 0) = false) (hf : findR ls key = none) : findRR ls key = (4, []) := by
  rw [findRR, if_neg (by rw [h]; exact Bool.false_ne_true), hf]
theorem Ch.findRR_some {ls : List (List Ch.Row)} {key : Int} {r : Ch.Row} (h : (asked ls key != 0) = false) (hf : findR ls key = some r) : findRR ls key = (0, [r]) := by
  rw [findRR, if_neg (by rw [h]; exact Bool.false_ne_true), hf]
theorem Ch.find_first (F : List Ch.Row) (key : Int) (k : Nat) (hk : k < F.length) (hne : ∀ j, j < k → (F.getD j Row.zero).k ≠ key) (he : (F.getD k Row.zero).k = key) : F.find? (fun r => r.k == key) = some (F.getD k Row.zero) := by
  induction F generalizing k with
  | nil => simp at hk
  | cons q F ih =>
    cases k with
    | zero => simp at he; simp [he]
    | succ k =>
      have h0 := hne 0 (by omega)
      simp at h0
      rw [List.find?_cons_of_neg (by simpa using h0)]
      have := ih k (by simpa using hk) (fun j hj => by have := hne (j + 1) (by omega); simpa using this) (by simpa using he)
      simpa using this
theorem Ch.find_none_of (F : List Ch.Row) (key : Int) (hne : ∀ j, j < F.length → (F.getD j Row.zero).k ≠ key) : F.find? (fun r => r.k == key) = none := by
  rw [List.find?_eq_none]
  intro r hr
  obtain ⟨j, hj, rfl⟩ := List.getElem_of_mem hr
  have := hne j hj
  rw [getD_get _ _ _ hj] at this
  simpa using this

/-- A row was found, or there is none. -/
def FindIs (ls : List (List Ch.Row)) (key : Int) (r : Ch.Row) (ok : Bool) : Prop := (ok = true ∧ Ch.findR ls key = some r) ∨ (ok = false ∧ Ch.findR ls key = none)

def FindPost (ls : List (List Ch.Row)) (key : Int) (w : World) (e : Ending) (w' : World) : Prop :=
  ∃ r ok, e = .returned (.tuple #[.agg #[.int .i64 r.k, .int .i64 r.v, .bool r.g], .bool ok]) ∧ FindIs ls key r ok ∧ Below w.heap.size w w'

/-- A row that was just made, as a list of one's own. -/
theorem new_own {W : World} {B H : Nat} (r : Ch.Row) (hH : H = W.heap.size) (hB : B ≤ W.heap.size) : (W.alloc (.cells #[.int .i64 r.k, .int .i64 r.v, .bool r.g] 53)).ownsRow B 53 3 (.slice (some ⟨H, 0, none⟩) 1 1) 1 (rcells [r]) := by
  subst hH
  exact World.ownsRow_lit W #[.int .i64 r.k, .int .i64 r.v, .bool r.g] 1 hB (by unfold maxLen; omega) rfl

theorem box3 {w w1 : World} {t : TypeId} {c0 c1 c2 : Value} (b : Below (w.alloc (.cells #[c0, c1, c2] t)).heap.size (w.alloc (.cells #[c0, c1, c2] t)) w1) :
    w1.cell? ⟨w.heap.size, 0, none⟩ = some c0 ∧ w1.cell? ⟨w.heap.size, 1, none⟩ = some c1 ∧ w1.cell? ⟨w.heap.size, 2, none⟩ = some c2 := ⟨box_cell b 0, box_cell b 1, box_cell b 2⟩

set_option linter.unusedSimpArgs false in
set_option maxHeartbeats 800000 in
theorem specFind_any (a : Option Addr) (n cap : Nat) (key : Int) (ls : List (List Ch.Row)) (w : World) (h : LvAt w a n ls) (hs : Ch.lvSize ls ≤ 1048576) (hg : ∀ k, k < n → (ls.getD k []).length ≠ 0) :
    Calls Tryz.prog 58 #[.slice a n cap, .int .i64 key] w (FindPost ls key w) := by
  have HL := h.len
  have hfl := Ch.flat_small hs ls.length
  rw [List.take_length] at hfl
  have b0 : Below w.heap.size w (w.alloc (.cells #[.int .i64 0, .int .i64 0, .bool false] 53)) := (Below.refl _ _).alloc (Nat.le_refl _) _
  go_enter Tryz.func58, Tryz.ntmps58
  go_wp2_with fail
  refine (specRows_any a n cap ls _ (h.below b0) hs hg).mono ?_
  rintro e w1 ⟨a1, c1, rfl, own1, b1⟩
  obtain ⟨x0, x1, x2⟩ := box3 b1
  have f0 := box_froz b1 0
  have f1 := box_froz b1 1
  have f2 := box_froz b1 2
  have hz := lt_of_cell x0
  have b1' := b0.trans (b1.mono b0.size)
  have C1 := owns_cells own1
  have HD : Hid (∀ F, F = ls.flatten → Ch.findR ls key = F.find? (fun r => r.k == key)) := fun F hF => by rw [hF]; rfl
  generalize hF : ls.flatten = F at *
  replace HD := hid (HD.out F rfl)
  clear hF
  generalize hnf : F.length = nf at *
  go_wp2
  go_loop [7] (fun i => ∃ k : Nat, k ≤ nf ∧ i = .int .i64 k ∧ Hid (∀ j, j < k → (F.getD j Ch.Row.zero).k ≠ key)) (fun i => nf - (intOf i).toNat)
  case atStart => exact ⟨0, Nat.zero_le _, rfl, fun j hj => absurd hj (by omega)⟩
  case round =>
    obtain ⟨k, hk, rfl, HP⟩ := hrel
    by_cases hlt : k < nf
    · obtain ⟨b, off, rfl, hc0, hc1, hc2⟩ := C1.row hlt
      have HY := hid (fun he => Ch.find_first F key k (by omega) HP.out he)
      have HP' : Hid (¬ (F.getD k Ch.Row.zero).k = key → ∀ j, j < k + 1 → (F.getD j Ch.Row.zero).k ≠ key) := by
        intro h0 j hj
        by_cases hjk : j = k
        · rw [hjk]; exact h0
        · exact HP.out j (by omega)
      generalize F.getD k Ch.Row.zero = r at *
      obtain ⟨rk, rv, rg⟩ := r
      simp only at hc0 hc1 hc2 HY HP'
      by_cases he : rk = key
      · have hq : (rk == key) = true := by simpa using he
        have HYe := hid (HY.out he)
        clear he HY HP'
        go_wp2
        exact bodyPost_ret (v := .tuple #[.agg #[.int .i64 rk, .int .i64 rv, .bool rg], .bool true]) (by simp [results, Tryz.results58, go_sem, x0, x1, x2]) rfl ⟨⟨rk, rv, rg⟩, true, rfl, .inl ⟨rfl, HD.out.trans HYe.out⟩, ((b1'.setCell (p := ⟨w.heap.size, 0, none⟩) (Nat.le_refl _) _).setCell (p := ⟨w.heap.size, 1, none⟩) (Nat.le_refl _) _).setCell (p := ⟨w.heap.size, 2, none⟩) (Nat.le_refl _) _⟩
      · have hq : (rk == key) = false := by simpa using he
        go_wp2
        go_round
        case rel => exact ⟨k + 1, by omega, by go_num, HP'.out he⟩
        case measure => simp [intOf]; omega
    · obtain rfl : k = nf := by omega
      go_wp2
      exact bodyPost_ret (v := .tuple #[.agg #[.int .i64 0, .int .i64 0, .bool false], .bool false]) (by simp [results, Tryz.results58, go_sem, x0, x1, x2]) rfl ⟨⟨0, 0, false⟩, false, rfl, .inr ⟨rfl, HD.out.trans (Ch.find_none_of F key (fun j hj => HP.out j (by omega)))⟩, ((b1'.setCell (p := ⟨w.heap.size, 0, none⟩) (Nat.le_refl _) _).setCell (p := ⟨w.heap.size, 1, none⟩) (Nat.le_refl _) _).setCell (p := ⟨w.heap.size, 2, none⟩) (Nat.le_refl _) _⟩

end Go.Proofs.YthfanfnbjldddaaGreat
