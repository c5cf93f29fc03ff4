
/- Marks that a law writes into leaves. -/
import Derived.Test.YtjjbjdjkcckgmaaLvL
namespace Go.Proofs.Ytjjbjdjkcckgmaa
open Go.RowKit

theorem markRowS_own (s : Int) (B n : Nat) (a : Option Addr) (cap : Nat) (rs : List Ch.Row) (w : World) (hs0 : 0 < s) (hs1 : s ≤ 1099511627776) (hown : w.ownsRow B 49 3 (.slice a n cap) n (rcells rs)) (hn : n ≤ 1048579) :
    Calls Try.prog 10 #[.slice a n cap, .int .i64 s] w fun e w' => e = .returned (.int .i64 (s + 3 * n)) ∧ w'.ownsRow B 49 3 (.slice a n cap) n (rcells (rmarks s n)) ∧ w.grownBy w' (Value.slice a n cap).ownBlock := by
  rcases hown.2 with ⟨hv, h0⟩ | ⟨g, cp, cur, hv, _⟩
  · simp only [Value.slice.injEq] at hv
    obtain ⟨rfl, rfl, rfl⟩ := hv
    refine (markRowS_nil s w).mono ?_
    rintro e w1 ⟨rfl, rfl⟩
    exact ⟨by simp, World.ownsRow_nil _ _ _ _, ⟨rfl, rfl, rfl, Nat.le_refl _, fun _ _ _ => rfl⟩⟩
  · simp only [Value.slice.injEq, true_and] at hv
    obtain ⟨rfl, rfl⟩ := hv
    exact markRowS_any s B g n cap rs w hs0 hs1 hown hn

/-- Leaves of one's own, their lists told. -/
def OwnV (w : World) (B : Nat) (v : Value) (n : Nat) (vs : List Value) (ls : List (List Ch.Row)) : Prop :=
  ls.length = n ∧ w.ownsRow B 65 1 v n vs ∧
    (∀ i, i < n → ∃ x, vs[i]? = some x ∧ w.ownsRow B 49 3 x (ls.getD i []).length (rcells (ls.getD i []))) ∧
    (∀ (i j : Nat) (x y : Value) (g : Nat), i < j → vs[i]? = some x → vs[j]? = some y → x.ownBlock = some g → y.ownBlock ≠ some g) ∧
    (∀ (i : Nat) (x : Value) (g : Nat), vs[i]? = some x → v.ownBlock = some g → x.ownBlock ≠ some g)
theorem OwnLv.told {w : World} {B n : Nat} {v : Value} {ls : List (List Ch.Row)} (h : OwnLv w B v n ls) : ∃ vs, OwnV w B v n vs ls := by
  obtain ⟨hl, vs, ho, hi, hd, hd'⟩ := h
  exact ⟨vs, hl, ho, hi, hd, hd'⟩
theorem OwnV.own {w : World} {B n : Nat} {v : Value} {vs : List Value} {ls : List (List Ch.Row)} (h : OwnV w B v n vs ls) : OwnLv w B v n ls := by
  obtain ⟨hl, ho, hi, hd, hd'⟩ := h
  exact ⟨hl, vs, ho, hi, hd, hd'⟩
theorem OwnV.lt {w : World} {B n : Nat} {v : Value} {vs : List Value} {ls : List (List Ch.Row)} (h : OwnV w B v n vs ls) : ∀ (i : Nat) (x : Value) (g : Nat), vs[i]? = some x → x.ownBlock = some g → B ≤ g ∧ g < w.heap.size := by
  intro i x g hx hg
  obtain ⟨hl, ho, hi, hd, hd'⟩ := h
  have hvl : vs.length = n := by have := ho.1; omega
  have hin : i < n := by
    rcases Nat.lt_or_ge i n with h | h
    · exact h
    · rw [List.getElem?_eq_none (by omega)] at hx; cases hx
  obtain ⟨y, h1, h2⟩ := hi i hin
  rw [hx] at h1; cases h1
  exact owns_lt h2 g hg

theorem OwnV.below {w w' : World} {B n : Nat} {v : Value} {vs : List Value} {ls : List (List Ch.Row)} (h : OwnV w B v n vs ls) (hb : Below w.heap.size w w') : OwnV w' B v n vs ls := by
  obtain ⟨hl, ho, hi, hd, hd'⟩ := h
  refine ⟨hl, owns_below ho hb, fun i hlt => ?_, hd, hd'⟩
  obtain ⟨x, h1, h2⟩ := hi i hlt
  exact ⟨x, h1, owns_below h2 hb⟩

/-- One leaf of one's own: where it lies, and what comes of it when it alone is written. -/
theorem OwnV.leafAt {w : World} {B n cap : Nat} {a : Option Addr} {vs : List Value} {ls : List (List Ch.Row)} (h : OwnV w B (.slice a n cap) n vs ls) {k : Nat} (hk : k < n) :
    ∃ b ai ci, a = some ⟨b, 0, none⟩ ∧ b < w.heap.size ∧ w.cell? ⟨b, k, none⟩ = some (.slice ai (ls.getD k []).length ci) ∧ vs[k]? = some (.slice ai (ls.getD k []).length ci) ∧ w.ownsRow B 49 3 (.slice ai (ls.getD k []).length ci) (ls.getD k []).length (rcells (ls.getD k [])) ∧
      ∀ (w' : World) (l' : List Ch.Row), w.grownBy w' (Value.slice ai (ls.getD k []).length ci).ownBlock → l'.length = (ls.getD k []).length → w'.ownsRow B 49 3 (.slice ai (ls.getD k []).length ci) l'.length (rcells l') → OwnV w' B (.slice a n cap) n vs (ls.set k l') := by
  obtain ⟨hl, ho, hi, hd, hd'⟩ := h
  obtain ⟨x, h1, h2⟩ := hi k hk
  obtain ⟨ai, ci, rfl⟩ := owns_shape h2
  have hc := owns_cells ho
  rw [Nat.mul_one] at hc
  rcases ho.2 with ⟨hv, h0⟩ | ⟨g, cp, cur, hv, _⟩
  · omega
  simp only [Value.slice.injEq, true_and] at hv
  obtain ⟨rfl, rfl⟩ := hv
  obtain ⟨b, off, ha, hcc⟩ := hc.2 (by omega)
  simp only [Option.some.injEq, Addr.mk.injEq, and_true] at ha
  obtain ⟨rfl, rfl⟩ := ha
  have hck := (hcc k hk).trans h1
  rw [Nat.zero_add] at hck
  refine ⟨g, ai, ci, rfl, lt_of_cell hck, hck, h1, h2, ?_⟩
  intro w' l' hg hl' hw'
  refine ⟨by simpa using hl, ?_, fun i hlt => ?_, hd, hd'⟩
  · exact owns_grown ho hg fun g' hg' e => hd' k _ g' h1 hg' e
  · by_cases hik : k = i
    · subst hik
      refine ⟨_, h1, ?_⟩
      have e : (ls.set k l').getD k [] = l' := by simp [List.getD, hl, hk]
      rw [e]
      exact hw'
    · obtain ⟨y, h3, h4⟩ := hi i hlt
      refine ⟨y, h3, ?_⟩
      have e : (ls.set k l').getD i [] = ls.getD i [] := by simp [List.getD, hik]
      rw [e]
      refine owns_grown h4 hg fun g' hg' e => ?_
      rcases Nat.lt_or_gt_of_ne hik with hlt' | hgt
      · exact hd k i _ y g' hlt' h1 h3 e hg'
      · exact hd i k y _ g' hgt h3 h1 hg' e

/-- The marks of leaves: each from where the one ahead ends. -/
def Ch.before (ls : List (List Ch.Row)) (k : Nat) : Nat := ((ls.take k).map List.length).sum
def lvMark (ls : List (List Ch.Row)) (k : Nat) : List Ch.Row := rmarks (1 + 3 * (Ch.before ls k : Int)) (ls.getD k []).length
def lvMarks (ls : List (List Ch.Row)) : List (List Ch.Row) := (List.range ls.length).map (lvMark ls)
def lvMarked (ls : List (List Ch.Row)) (k : Nat) : List (List Ch.Row) := (List.range k).map (lvMark ls) ++ ls.drop k
theorem lvMarked_set (ls : List (List Ch.Row)) (k : Nat) (h : k < ls.length) : (lvMarked ls k).set k (lvMark ls k) = lvMarked ls (k + 1) := by
  unfold lvMarked
  rw [Ch.set_mid _ _ _ _ (by simp) h, List.range_succ]
  simp
theorem lvMarked_at (ls : List (List Ch.Row)) (k : Nat) : (lvMarked ls k).getD k [] = ls.getD k [] := by
  unfold lvMarked
  rw [List.getD, List.getElem?_append_right (by simp)]
  simp [List.getD]
theorem Ch.before_next (ls : List (List Ch.Row)) (k : Nat) (h : k < ls.length) : Ch.before ls (k + 1) = Ch.before ls k + (ls.getD k []).length := Ch.lv_take ls k h
theorem Ch.before_small {ls : List (List Ch.Row)} (hs : Ch.lvSize ls ≤ 1048576) (k : Nat) : Ch.before ls k ≤ 1048576 := by
  have := Ch.lv_le ls k
  unfold Ch.lvSize at hs
  unfold Ch.before
  omega

set_option maxHeartbeats 400000 in
theorem markLeafS_any (B : Nat) (a : Option Addr) (n cap : Nat) (ls : List (List Ch.Row)) (w0 w : World) (h : OwnLv w0 B (.slice a n cap) n ls) (hb : Below w0.heap.size w0 w) (hs : Ch.lvSize ls ≤ 1048576) :
    Calls Try.prog 45 #[.slice a n cap, .int .i64 1] w fun e w' => e = .returned (.int .i64 (1 + 3 * (Ch.before ls n : Int))) ∧ OwnLv w' B (.slice a n cap) n (lvMarks ls) ∧ Within B w0.heap.size w w' := by
  have HL : Hid (ls.length = n) := h.1
  obtain ⟨vs, h⟩ := h.told
  have hlt0 := h.lt
  replace h := h.below hb
  have hn : n ≤ 1048576 := by unfold Ch.lvSize at hs; have := HL.out; omega
  go_enter Try.func45, Try.ntmps45
  go_wp2
  go_loopw [1, 5] (fun q i wr => ∃ k : Nat, k ≤ n ∧ i = .int .i64 k ∧ q = .int .i64 (1 + 3 * (Ch.before ls k : Int)) ∧ OwnV wr B (.slice a n cap) n vs (lvMarked ls k) ∧ Within B w0.heap.size w wr) (fun _ i _ => n - (intOf i).toNat)
  case atStart => exact ⟨0, Nat.zero_le _, rfl, by simp [Ch.before], by simpa [lvMarked] using h, Within.refl _ _ _⟩
  case round =>
    obtain ⟨k, hk, rfl, rfl, own, hW⟩ := hrel
    by_cases hlt : k < n
    · have hkl : k < ls.length := by have := HL.out; omega
      have HS := hid (Ch.lv_leaf hs k)
      have HB := hid (Ch.before_next ls k hkl)
      have hbs := Ch.before_small hs k
      have HM := hid (lvMarked_set ls k hkl)
      have HK : Hid (lvMark ls k = rmarks (1 + 3 * (Ch.before ls k : Int)) (ls.getD k []).length) := rfl
      have HWs := hid hW.size
      obtain ⟨b, ai, ci, rfl, hbl, hc, hvk, ho, hput⟩ := own.leafAt hlt
      rw [lvMarked_at ls k] at hc hvk ho hput
      generalize ls.getD k [] = l at *
      generalize Ch.before ls k = q at *
      go_wp2_with fail
      refine (markRowS_own (1 + 3 * (q : Int)) B l.length ai ci l _ (by omega) (by omega) ho (by have := HS.out; omega)).mono ?_
      rintro e w1 ⟨rfl, own1, gr1⟩
      go_wp2
      go_roundw
      case rel =>
        refine ⟨k + 1, by omega, by go_num, by rw [HB.out]; simp; omega, ?_, ?_⟩
        · rw [← HM.out]
          refine hput _ _ gr1 (by rw [HK.out, rmarks_len]) ?_
          rw [HK.out, rmarks_len]
          exact own1
        · rcases ho.2 with ⟨hv, _⟩ | ⟨g, cp, cur, hv, _⟩
          · rw [hv] at gr1
            exact hW.trans ⟨gr1.os, gr1.tape, gr1.output, gr1.size, fun j hj _ => gr1.block j hj (by simp [Value.ownBlock])⟩
          · have hgb := hlt0 k _ g hvk (by rw [hv]; rfl)
            rw [hv] at gr1
            exact hW.trans (within_grown gr1 hgb.1 hgb.2)
      case measure => simp [intOf]; omega
    · obtain rfl : k = n := by omega
      go_wp2
      go_ret
      refine ⟨rfl, ?_, hW⟩
      have e := HL.out
      subst e
      simpa [lvMarked, lvMarks] using own.own

end Go.Proofs.Ytjjbjdjkcckgmaa
