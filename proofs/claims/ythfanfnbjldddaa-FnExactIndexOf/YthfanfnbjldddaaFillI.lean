
/- FillOf of the model and of the program. -/
import Derived.Test.YthfanfnbjldddaaAllI
import Derived.Test.YthfanfnbjldddaaMrgM
namespace Go.Proofs.Ythfanfnbjldddaa
open Go.RowKit

theorem own_rows_len {w : World} {B m : Nat} {v : Value} {F : List Ch.Row} (h : w.ownsRow B 105 3 v m (rcells F)) : Hid (m = F.length) := by
  have h1 := h.1
  rw [rcells_len] at h1
  show _ = _
  omega
theorem quo_is (F n : Nat) (hF : F ≤ 1048576) : ∃ Q : Nat, Q ≤ 104857600 ∧ ((F : Int) * 100).tdiv (4 * (n : Int)) = (Q : Int) ∧ Hid ((F : Int) * 100 / (4 * (n : Int)) = (Q : Int)) := by
  have e : (F : Int) * 100 / (4 * (n : Int)) = ((F * 100 / (4 * n) : Nat) : Int) := by push_cast; rfl
  refine ⟨F * 100 / (4 * n), Nat.le_trans (Nat.div_le_self _ _) (by omega), ?_, e⟩
  rw [Int.tdiv_eq_ediv_of_nonneg (by omega), e]

/-- RowsOf of right leaves. -/
theorem implRowsOf_ok (a : Option Addr) (n cap : Nat) (ls : List (List Ch.Row)) (w : World) (h : LvAt w a n ls) (hs : Ch.lvSize ls ≤ 1048576) (h0 : Ch.leavesFault ls = 0) (m : Nat) (hm : Hid (ls.flatten.length = m)) :
    Calls Try.prog 20 #[.slice a n cap] w fun e w' => ∃ a' c', e = .returned (.agg #[.int .i64 0, .slice a' m c']) ∧ w'.ownsRow w.heap.size 105 3 (.slice a' m c') m (rcells ls.flatten) ∧ Below w.heap.size w w' := by
  have RI := implRowsOf_any a n cap ls w h hs
  rw [Ch.rowsR_ok h0] at RI
  refine RI.mono ?_
  rintro e w2 ⟨a', m', c', rfl, hm', own, b2⟩
  have HM := (own_rows_len own).out
  have hm := hm.out
  subst HM hm
  exact ⟨a', c', rfl, own, b2⟩
/-- The model's list of all rows, its length named. -/
theorem specRows_m (a : Option Addr) (n cap : Nat) (ls : List (List Ch.Row)) (w : World) (h : LvAt w a n ls) (hs : Ch.lvSize ls ≤ 1048576) (hg : ∀ k, k < n → (ls.getD k []).length ≠ 0) (m : Nat) (hm : Hid (ls.flatten.length = m)) :
    Calls Try.prog 80 #[.slice a n cap] w fun e w' => ∃ a' c', e = .returned (.slice a' m c') ∧ w'.ownsRow w.heap.size 105 3 (.slice a' m c') m (rcells ls.flatten) ∧ Below w.heap.size w w' := by
  have hm := hm.out
  subst hm
  exact specRows_any a n cap ls w h hs hg

end Go.Proofs.Ythfanfnbjldddaa
