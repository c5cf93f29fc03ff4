/- Several texts in one: MrgM, FillI. -/
import Derived.Test.YthfanfnbjldddaaGreatGoodM
import Derived.Test.YthfanfnbjldddaaGreatAllI


/- Leaves that are merged, evened and packed: plain. -/
namespace Go.Proofs.YthfanfnbjldddaaGreat.Ch
/-- What a question for two leaves is told. -/
def pairAsked (ls : List (List Row)) (at_ : Int) : Int := if leavesFault ls != 0 then leavesFault ls else if inB at_ 0 ((ls.length : Int) - 2) then 0 else 3
/-- The rows of the leaf at k and of the one behind it. -/
def pairAt (ls : List (List Row)) (k : Nat) : List Row := ls.getD k [] ++ ls.getD (k + 1) []
/-- Leaves in place of two. -/
def twoIn (ls : List (List Row)) (k : Nat) (mid : List (List Row)) : List (List Row) := ls.take k ++ mid ++ ls.drop (k + 2)
def halfOf (l : List Row) : Nat := (l.length + 1) / 2
def evens (l : List Row) : List (List Row) := [l.take (halfOf l), l.drop (halfOf l)]
/-- What MergeLeaves answers. -/
def mergeR (ls : List (List Row)) (at_ : Int) : Int × List (List Row) :=
  if pairAsked ls at_ != 0 then (pairAsked ls at_, []) else if 4 < (pairAt ls at_.toNat).length then (2, []) else (0, twoIn ls at_.toNat [pairAt ls at_.toNat])
/-- What EvenLeaves answers. -/
def evenR (ls : List (List Row)) (at_ : Int) : Int × List (List Row) :=
  if pairAsked ls at_ != 0 then (pairAsked ls at_, []) else (0, twoIn ls at_.toNat (evens (pairAt ls at_.toNat)))
/-- The i-th piece of four. -/
def pieceOf (F : List Row) (i : Nat) : List Row := (F.drop (i * 4)).take 4
def piecesN (F : List Row) : Nat := (F.length + 3) / 4
def pack (F : List Row) : List (List Row) := (List.range (piecesN F)).map (pieceOf F)
/-- What PackLeaves answers. -/
def packR (ls : List (List Row)) : Int × List (List Row) := if leavesFault ls != 0 then (leavesFault ls, []) else (0, pack ls.flatten)
/-- What FillOf answers. -/
def fillR (ls : List (List Row)) : Int × Int :=
  if leavesFault ls != 0 then (leavesFault ls, 0) else if ls.length = 0 then (4, 0) else (0, (ls.flatten.length : Int) * 100 / (4 * (ls.length : Int)))
def Row.same (a b : Row) : Bool := a.k == b.k && (a.v == b.v && a.g == b.g)
/-- Rows one by one the same. -/
def sameL : List Row → List Row → Bool
  | [], [] => true
  | a :: l, b :: m => a.same b && sameL l m
  | [], _ :: _ => false
  | _ :: _, [] => false
theorem Row.same_self (a : Row) : a.same a = true := by simp [Row.same]
theorem sameL_self (l : List Row) : sameL l l = true := by
  induction l with
  | nil => rfl
  | cons a l ih => simp [sameL, ih, Row.same_self]
theorem sameL_len (l m : List Row) (h : l.length ≠ m.length) : sameL l m = false := by
  induction l generalizing m with
  | nil => cases m with
    | nil => simp at h
    | cons b m => rfl
  | cons a l ih => cases m with
    | nil => rfl
    | cons b m => simp [sameL, ih m (by simpa using h)]
theorem sameL_at (l m : List Row) (k : Nat) (h : k < l.length) (h' : k < m.length) : sameL (l.drop k) (m.drop k) = ((l.getD k Row.zero).same (m.getD k Row.zero) && sameL (l.drop (k + 1)) (m.drop (k + 1))) := by
  rw [List.drop_eq_getElem_cons h, List.drop_eq_getElem_cons h', sameL]
  simp [List.getD, h, h']
/-- What SameRows answers. -/
def sameR (ps qs : List (List Row)) : Bool := leavesFault ps == 0 && (leavesFault qs == 0 && sameL ps.flatten qs.flatten)
theorem sameR_yes {ps qs : List (List Row)} (h : leavesFault ps = 0) (h' : leavesFault qs = 0) (hf : ps.flatten = qs.flatten) : sameR ps qs = true := by
  rw [sameR, h, h', hf, sameL_self]; rfl
theorem sameR_no {ps qs : List (List Row)} (h : (leavesFault ps != 0) = true) : sameR ps qs = false := by
  have h : leavesFault ps ≠ 0 := by simpa using h
  simp [sameR, h]
theorem sameR_no2 {ps qs : List (List Row)} (h : (leavesFault qs != 0) = true) : sameR ps qs = false := by
  have h : leavesFault qs ≠ 0 := by simpa using h
  simp [sameR, h]
theorem sameR_ok {ps qs : List (List Row)} (h : leavesFault ps = 0) (h' : leavesFault qs = 0) : sameR ps qs = sameL ps.flatten qs.flatten := by
  rw [sameR, h, h']; rfl

theorem two_flat (ls : List (List Row)) (k : Nat) (mid : List (List Row)) (hk : k + 1 < ls.length) (hm : mid.flatten = pairAt ls k) : (twoIn ls k mid).flatten = ls.flatten := by
  have e : ls = ls.take k ++ [ls.getD k [], ls.getD (k + 1) []] ++ ls.drop (k + 2) := by
    rw [List.append_assoc, show [ls.getD k [], ls.getD (k + 1) []] ++ ls.drop (k + 2) = ls.getD k [] :: ls.getD (k + 1) [] :: ls.drop (k + 2) from rfl, ← lv_drop ls (k + 1) hk, ← lv_drop ls k (by omega), List.take_append_drop]
  unfold twoIn
  conv => rhs; rw [e]
  simp only [List.flatten_append, hm, pairAt, List.flatten_cons, List.flatten_nil, List.append_nil]
theorem two_len (ls : List (List Row)) (k : Nat) (mid : List (List Row)) (hk : k + 1 < ls.length) : (twoIn ls k mid).length + 2 = ls.length + mid.length := by
  simp [twoIn, List.length_take, List.length_drop]; omega
theorem evens_flat (l : List Row) : (evens l).flatten = l := by simp [evens]
theorem pieces_take (F : List Row) (k : Nat) : ((List.range k).map (pieceOf F)).flatten = F.take (k * 4) := by
  induction k with
  | zero => simp
  | succ k ih =>
    rw [List.range_succ, List.map_append, List.flatten_append, ih]
    simp only [List.map_cons, List.map_nil, List.flatten_cons, List.flatten_nil, List.append_nil, pieceOf]
    rw [show (k + 1) * 4 = k * 4 + 4 by omega, List.take_add]
theorem pack_flat (F : List Row) : (pack F).flatten = F := by
  unfold pack
  rw [pieces_take]
  exact List.take_of_length_le (by unfold piecesN; omega)
theorem pack_len (F : List Row) : (pack F).length = piecesN F := by simp [pack]
theorem piece_len (F : List Row) (i : Nat) : (pieceOf F i).length = min 4 (F.length - i * 4) := by simp [pieceOf]
theorem flat_up (ls : List (List Row)) (h : ∀ l ∈ ls, l.length ≤ 4) : ls.flatten.length ≤ 4 * ls.length := by
  induction ls with
  | nil => simp
  | cons l ls ih =>
    have h1 := ih fun m hm => h m (List.mem_cons_of_mem _ hm)
    have h2 := h l List.mem_cons_self
    simp only [List.flatten_cons, List.length_append, List.length_cons]
    omega
theorem flat_lo (ls : List (List Row)) (h : ∀ l ∈ ls, l.length ≠ 0) : ls.length ≤ ls.flatten.length := by
  induction ls with
  | nil => simp
  | cons l ls ih =>
    have h1 := ih fun m hm => h m (List.mem_cons_of_mem _ hm)
    have h2 := h l List.mem_cons_self
    simp only [List.flatten_cons, List.length_append, List.length_cons]
    omega
/-- Packed leaves are right, and no more of them than there were. -/
theorem pack_good {ls : List (List Row)} (h : leavesFault ls = 0) : leavesFault (pack ls.flatten) = 0 ∧ (pack ls.flatten).length ≤ ls.length := by
  obtain ⟨h1, h2, h3, h4⟩ := (good_iff ls).1 h
  have hu := flat_up ls fun l hl => (h2 l hl).2
  have hn : (pack ls.flatten).length ≤ ls.length := by rw [pack_len]; unfold piecesN; omega
  refine ⟨(good_iff _).2 ⟨by omega, ?_, ?_, ?_⟩, hn⟩
  · intro l hl
    obtain ⟨i, hi, rfl⟩ := List.mem_map.1 hl
    have hi := List.mem_range.1 hi
    unfold piecesN at hi
    rw [piece_len]
    omega
  · rw [pack_flat]; exact h3
  · rw [pack_flat]; exact h4
theorem two_good {ls : List (List Row)} (h : leavesFault ls = 0) {k : Nat} (hk : k + 1 < ls.length) {mid : List (List Row)} (hm : mid.flatten = pairAt ls k) (hl : mid.length ≤ 2) (hg : ∀ l ∈ mid, l.length ≠ 0 ∧ l.length ≤ 4) : leavesFault (twoIn ls k mid) = 0 := by
  obtain ⟨h1, h2, h3, h4⟩ := (good_iff ls).1 h
  have hn := two_len ls k mid hk
  refine (good_iff _).2 ⟨by omega, ?_, ?_, ?_⟩
  · intro l hl
    unfold twoIn at hl
    rcases List.mem_append.1 hl with hl | hl
    · rcases List.mem_append.1 hl with hl | hl
      · exact h2 l (List.mem_of_mem_take hl)
      · exact hg l hl
    · exact h2 l (List.mem_of_mem_drop hl)
  · rw [two_flat ls k mid hk hm]; exact h3
  · rw [two_flat ls k mid hk hm]; exact h4
theorem getD_mem (ls : List (List Row)) (k : Nat) (h : k < ls.length) : ls.getD k [] ∈ ls := by
  simp [List.getD, List.getElem?_eq_getElem h]
theorem pair_pos {ls : List (List Row)} (h : leavesFault ls = 0) {k : Nat} (hk : k + 1 < ls.length) : 2 ≤ (pairAt ls k).length ∧ (pairAt ls k).length ≤ 8 := by
  obtain ⟨h1, h2, h3, h4⟩ := (good_iff ls).1 h
  have a := h2 _ (getD_mem ls k (by omega))
  have b := h2 _ (getD_mem ls (k + 1) hk)
  simp only [pairAt, List.length_append]
  omega
theorem merge_good {ls : List (List Row)} (h : leavesFault ls = 0) {k : Nat} (hk : k + 1 < ls.length) (h4 : ¬ 4 < (pairAt ls k).length) : leavesFault (twoIn ls k [pairAt ls k]) = 0 := by
  have := pair_pos h hk
  refine two_good h hk (by simp) (by simp) fun l hl => ?_
  rw [List.mem_singleton] at hl
  subst hl
  omega
theorem even_good {ls : List (List Row)} (h : leavesFault ls = 0) {k : Nat} (hk : k + 1 < ls.length) : leavesFault (twoIn ls k (evens (pairAt ls k))) = 0 := by
  have := pair_pos h hk
  refine two_good h hk (evens_flat _) (by simp [evens]) fun l hl => ?_
  simp only [evens, List.mem_cons, List.not_mem_nil, or_false] at hl
  rcases hl with rfl | rfl
  · rw [List.length_take]; unfold halfOf; omega
  · rw [List.length_drop]; unfold halfOf; omega
theorem asked_ok {ls : List (List Row)} {at_ : Int} (h : pairAsked ls at_ = 0) : leavesFault ls = 0 ∧ ∃ k : Nat, at_ = (k : Int) ∧ k + 1 < ls.length := by
  unfold pairAsked at h
  split at h
  · rename_i hc
    simp [h] at hc
  · rename_i hc
    split at h
    · rename_i hb
      simp [inB] at hb
      exact ⟨by simpa using hc, at_.toNat, by omega, by omega⟩
    · simp at h
theorem pack_pack (F : List Row) : pack (pack F).flatten = pack F := by rw [pack_flat]
theorem fillR_ok {ls : List (List Row)} (h : leavesFault ls = 0) : fillR ls = if ls.length = 0 then (4, 0) else (0, (ls.flatten.length : Int) * 100 / (4 * (ls.length : Int))) := by
  rw [fillR, h]; rfl
theorem fillR_no {ls : List (List Row)} (h : (leavesFault ls != 0) = true) : fillR ls = (leavesFault ls, 0) := by rw [fillR, if_pos h]
theorem packR_ok {ls : List (List Row)} (h : leavesFault ls = 0) : packR ls = (0, pack ls.flatten) := by rw [packR, h]; rfl
theorem packR_no {ls : List (List Row)} (h : (leavesFault ls != 0) = true) : packR ls = (leavesFault ls, []) := by rw [packR, if_pos h]
theorem mergeR_no {ls : List (List Row)} {at_ : Int} (h : (pairAsked ls at_ != 0) = true) : mergeR ls at_ = (pairAsked ls at_, []) := by rw [mergeR, if_pos h]
theorem evenR_no {ls : List (List Row)} {at_ : Int} (h : (pairAsked ls at_ != 0) = true) : evenR ls at_ = (pairAsked ls at_, []) := by rw [evenR, if_pos h]
theorem mergeR_ok {ls : List (List Row)} {k : Nat} (h : pairAsked ls (k : Int) = 0) : mergeR ls (k : Int) = if 4 < (pairAt ls k).length then (2, []) else (0, twoIn ls k [pairAt ls k]) := by rw [mergeR, h]; rfl
theorem evenR_ok {ls : List (List Row)} {k : Nat} (h : pairAsked ls (k : Int) = 0) : evenR ls (k : Int) = (0, twoIn ls k (evens (pairAt ls k))) := by rw [evenR, h]; rfl
theorem fill_more {ls : List (List Row)} (h : leavesFault ls = 0) : (fillR (pack ls.flatten)).1 = (fillR ls).1 ∧ (fillR ls).2 ≤ (fillR (pack ls.flatten)).2 := by
  obtain ⟨hp, hn⟩ := pack_good h
  obtain ⟨h1, h2, h3, h4⟩ := (good_iff ls).1 h
  have hlo := flat_lo ls fun l hl => (h2 l hl).1
  rw [fillR_ok hp, fillR_ok h, pack_flat]
  by_cases h0 : ls.length = 0
  · have : (pack ls.flatten).length = 0 := by omega
    rw [if_pos this, if_pos h0]
    exact ⟨rfl, Int.le_refl _⟩
  · have h0' : (pack ls.flatten).length ≠ 0 := by rw [pack_len]; unfold piecesN; omega
    rw [if_neg h0', if_neg h0]
    refine ⟨rfl, ?_⟩
    show (ls.flatten.length : Int) * 100 / (4 * (ls.length : Int)) ≤ (ls.flatten.length : Int) * 100 / (4 * ((pack ls.flatten).length : Int))
    generalize ls.flatten.length = F at *
    generalize (pack ls.flatten).length = P at *
    generalize ls.length = L at *
    have e1 : (F : Int) * 100 / (4 * (L : Int)) = ((F * 100 / (4 * L) : Nat) : Int) := by push_cast; rfl
    have e2 : (F : Int) * 100 / (4 * (P : Int)) = ((F * 100 / (4 * P) : Nat) : Int) := by push_cast; rfl
    rw [e1, e2]
    exact Int.ofNat_le.2 (Nat.div_le_div_left (by omega) (by omega))
end Go.Proofs.YthfanfnbjldddaaGreat.Ch


/- FillOf of the model and of the program. -/
namespace Go.Proofs.YthfanfnbjldddaaGreat
open Go.RowKit

theorem own_rows_len {w : World} {B m : Nat} {v : Value} {F : List Ch.Row} (h : w.ownsRow B 53 3 v m (rcells F)) : Hid (m = F.length) := by
  have h1 := h.1
  rw [rcells_len] at h1
  show _ = _
  omega
theorem quo_is (F n : Nat) (hF : F ≤ 1048576) : ∃ Q : Nat, Q ≤ 104857600 ∧ ((F : Int) * 100).tdiv (4 * (n : Int)) = (Q : Int) ∧ Hid ((F : Int) * 100 / (4 * (n : Int)) = (Q : Int)) := by
  have e : (F : Int) * 100 / (4 * (n : Int)) = ((F * 100 / (4 * n) : Nat) : Int) := by push_cast; rfl
  refine ⟨F * 100 / (4 * n), Nat.le_trans (Nat.div_le_self _ _) (by omega), ?_, e⟩
  rw [Int.tdiv_eq_ediv_of_nonneg (by omega), e]

/-- RowsOf of right leaves. -/
theorem implRowsOf_ok (a : Option Addr) (n cap : Nat) (ls : List (List Ch.Row)) (w : World) (h : LvAt w a n ls) (hs : Ch.lvSize ls ≤ 1048576) (h0 : Ch.leavesFault ls = 0) (m : Nat) (hm : Hid (ls.flatten.length = m)) :
    Calls Tryz.prog 40 #[.slice a n cap] w fun e w' => ∃ a' c', e = .returned (.agg #[.int .i64 0, .slice a' m c']) ∧ w'.ownsRow w.heap.size 53 3 (.slice a' m c') m (rcells ls.flatten) ∧ Below w.heap.size w w' := by
  have RI := implRowsOf_any a n cap ls w h hs
  rw [Ch.rowsR_ok h0] at RI
  refine RI.mono ?_
  rintro e w2 ⟨a', m', c', rfl, hm', own, b2⟩
  have HM := (own_rows_len own).out
  have hm := hm.out
  subst HM hm
  exact ⟨a', c', rfl, own, b2⟩
/-- The model's list of all rows, its length named. -/
theorem specRows_m (a : Option Addr) (n cap : Nat) (ls : List (List Ch.Row)) (w : World) (h : LvAt w a n ls) (hs : Ch.lvSize ls ≤ 1048576) (hg : ∀ k, k < n → (ls.getD k []).length ≠ 0) (m : Nat) (hm : Hid (ls.flatten.length = m)) :
    Calls Tryz.prog 53 #[.slice a n cap] w fun e w' => ∃ a' c', e = .returned (.slice a' m c') ∧ w'.ownsRow w.heap.size 53 3 (.slice a' m c') m (rcells ls.flatten) ∧ Below w.heap.size w w' := by
  have hm := hm.out
  subst hm
  exact specRows_any a n cap ls w h hs hg

end Go.Proofs.YthfanfnbjldddaaGreat

