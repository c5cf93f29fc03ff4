
/- Plain: whom one leads to, in edges that are sorted; edgesFrom so. -/
import Derived.Test.YtmolddlmjojceaaEfW
import Derived.Test.YtmolddlmjojceaaQuW
namespace Go.Proofs.Ytmolddlmjojceaa
open Go.RowKit

/-- The edges of one. -/
def Ch.filE (es : List Ch.Hold) (x : Int) : List Ch.Hold := es.filter (fun e => decide (e.t = x))
/-- Whom one leads to. -/
def Ch.scE (es : List Ch.Hold) (x : Int) : List Int := (Ch.filE es x).map (·.m)
theorem Ch.scE_len (es : List Ch.Hold) (x : Int) : (Ch.scE es x).length = (Ch.filE es x).length := by simp [Ch.scE]
theorem Ch.scE_mem {es : List Ch.Hold} (x u : Int) : u ∈ Ch.scE es x ↔ (x, u) ∈ Ch.prE es := by
  unfold Ch.scE Ch.filE Ch.prE
  simp only [List.mem_map, List.mem_filter, decide_eq_true_eq, Prod.mk.injEq]
  constructor
  · rintro ⟨e, ⟨h1, h2⟩, h3⟩; exact ⟨e, h1, h2, h3⟩
  · rintro ⟨e, h1, h2, h3⟩; exact ⟨e, ⟨h1, h2⟩, h3⟩
theorem Ch.scE_rise {es : List Ch.Hold} (h : Ch.SortE es) (x : Int) : (Ch.scE es x).Pairwise (· < ·) := by
  unfold Ch.scE
  rw [List.pairwise_map]
  have h1 : (Ch.filE es x).Pairwise fun a b => Ch.ltE a b = true := List.Pairwise.filter _ h
  refine List.Pairwise.imp_of_mem ?_ h1
  intro a b ha hb hab
  have ea : a.t = x := by have := (List.mem_filter.1 ha).2; simpa using this
  have eb : b.t = x := by have := (List.mem_filter.1 hb).2; simpa using this
  rcases Ch.ltE_iff.1 hab with h2 | ⟨_, h2⟩
  · omega
  · exact h2
theorem Ch.fil_at {es : List Ch.Hold} {x : Int} {i : Nat} (h : i < (Ch.scE es x).length) : ((Ch.filE es x).getD i Ch.Hold.zero).m = (Ch.scE es x).getD i 0 := by
  have h' : i < (Ch.filE es x).length := by rw [← Ch.scE_len]; exact h
  simp [Ch.scE, List.getD, h']
theorem Ch.mono_of_sort {es : List Ch.Hold} (h : Ch.SortE es) : ∀ i j, i ≤ j → j < es.length → (es.getD i Ch.Hold.zero).t ≤ (es.getD j Ch.Hold.zero).t := by
  intro i j hij hj
  by_cases e : i = j
  · subst e; exact Int.le_refl _
  · have := List.pairwise_iff_getElem.1 h i j (by omega) hj (by omega)
    have h1 : (es.getD i Ch.Hold.zero) = es[i]'(by omega) := by simp [List.getD, show i < es.length by omega]
    have h2 : (es.getD j Ch.Hold.zero) = es[j] := by simp [List.getD, hj]
    rw [h1, h2]
    rcases Ch.ltE_iff.1 this with h3 | ⟨h3, _⟩ <;> omega
theorem Ch.piece_is {es : List Ch.Hold} {x : Int} {k m : Nat} (hk : Ch.AtE es es.length x k) (hm : Ch.AtE es es.length (x + 1) m) (hkm : k ≤ m) : (es.drop k).take (m - k) = Ch.filE es x := by
  have e1 : es = es.take k ++ ((es.drop k).take (m - k) ++ es.drop m) := by
    have : es.drop m = (es.drop k).drop (m - k) := by rw [List.drop_drop]; congr 1; omega
    rw [this, List.take_append_drop, List.take_append_drop]
  have hget : ∀ i, i < es.length → ∀ e, es[i]? = some e → es.getD i Ch.Hold.zero = e := fun i hi e he => by simp [List.getD, he]
  have f1 : (es.take k).filter (fun e => decide (e.t = x)) = [] := by
    rw [List.filter_eq_nil_iff]
    intro e he
    obtain ⟨i, hi, rfl⟩ := List.getElem_of_mem he
    simp only [List.length_take] at hi
    have := hk.2.1 i (by omega)
    simp only [List.getD, List.getElem_take] at this ⊢
    rw [List.getElem?_eq_getElem (by omega)] at this
    simp at this ⊢
    omega
  have f3 : (es.drop m).filter (fun e => decide (e.t = x)) = [] := by
    rw [List.filter_eq_nil_iff]
    intro e he
    obtain ⟨i, hi, rfl⟩ := List.getElem_of_mem he
    simp only [List.length_drop] at hi
    have := hm.2.2 (m + i) (by omega) (by omega)
    simp only [List.getD, List.getElem_drop] at this ⊢
    rw [List.getElem?_eq_getElem (by omega)] at this
    simp at this ⊢
    omega
  have f2 : ((es.drop k).take (m - k)).filter (fun e => decide (e.t = x)) = (es.drop k).take (m - k) := by
    rw [List.filter_eq_self]
    intro e he
    obtain ⟨i, hi, rfl⟩ := List.getElem_of_mem he
    simp only [List.length_take, List.length_drop] at hi
    have a1 := hk.2.2 (k + i) (by omega) (by omega)
    have a2 := hm.2.1 (k + i) (by omega)
    simp only [List.getD, List.getElem_take, List.getElem_drop] at a1 a2 ⊢
    rw [List.getElem?_eq_getElem (by omega)] at a1 a2
    simp at a1 a2 ⊢
    omega
  unfold Ch.filE
  conv => rhs; rw [e1]
  rw [List.filter_append, List.filter_append, f1, f2, f3]
  simp

theorem edgesFrom_is (a : Option Addr) (n cap : Nat) (es : List Ch.Hold) (x : Int) (w0 w : World) (h : CellsAt w0 a (n * 2) (hcells es)) (h0 : Below w0.heap.size w0 w) (hn : n ≤ 400) (hcap : n ≤ cap) (hs : Ch.SortE es) (hr : RngE es) (hx : 1 ≤ x ∧ x ≤ 999) :
    Calls Try.prog 28 #[.slice a n cap, .int .i64 x] w fun e w' => ∃ a' c' m', e = .returned (.slice a' m' c') ∧ Hid (m' = (Ch.scE es x).length) ∧ m' ≤ 400 ∧ CellsAt w0 a' (m' * 2) (hcells (Ch.filE es x)) ∧ Below w.heap.size w w' := by
  have hl : n = es.length := h.hlen.out
  refine (edgesFrom_any a n cap es x w (h.below h0) (by omega) hcap (fun i j h1 h2 => Ch.mono_of_sort hs i j h1 (by omega)) (fun k hk => (hr (es.getD k Ch.Hold.zero) (by simp [List.getD, show k < es.length by omega])).2.1) (by omega)).mono ?_
  rintro e w' ⟨k, m, rfl, AK, AM, hkm, hmn, hb⟩
  have hc := h.cutE hkm hmn hcap
  have AK := AK.out
  have AM := AM.out
  rw [hl] at AK AM
  rw [Ch.piece_is AK AM hkm] at hc
  have hlen : m - k = (Ch.scE es x).length := by
    have := hc.hlen.out
    rw [Ch.scE_len]; exact this
  exact ⟨_, _, _, rfl, hlen, by omega, hc, hb⟩

/-- So many are reached at most. -/
theorem Ch.Mid.bound {es : List Ch.Hold} {t : Int} {s : Ch.Rch} {p : Nat} {done us : List Int} (M : Ch.Mid (Ch.scE es) t s p done us) : s.vs.length ≤ es.length + 1 := by
  have hnd : s.vs.Nodup := by
    rw [List.nodup_iff_pairwise_ne, List.pairwise_iff_getElem]
    intro i j hi hj hij e
    have := M.tree.inj i j hi hj (by unfold Ch.Rch.v; simp [List.getD, hi, hj, e])
    omega
  have := Ch.nodup_le (m := t :: es.map (·.m)) hnd (fun y hy => by
    obtain ⟨j, hj, rfl⟩ := Ch.Rch.mem.1 hy
    by_cases h0 : j = 0
    · subst h0; rw [M.tree.v0]; simp
    · have h1 := (M.tree.from_ j (by omega) hj).2.1
      have h2 := (Ch.scE_mem _ _).1 h1
      unfold Ch.prE at h2
      obtain ⟨e, he, h3⟩ := List.mem_map.1 h2
      simp only [Prod.mk.injEq] at h3
      refine List.mem_cons_of_mem _ (List.mem_map.2 ⟨e, he, h3.2⟩))
  simpa using this
/-- Each that is reached is a number of its kind. -/
theorem Ch.Mid.rng {es : List Ch.Hold} {t : Int} {s : Ch.Rch} {p : Nat} {done us : List Int} (M : Ch.Mid (Ch.scE es) t s p done us) (hr : RngE es) (ht : 1 ≤ t ∧ t ≤ 999) {i : Nat} (hi : i < s.vs.length) : 1 ≤ s.v i ∧ s.v i ≤ 999 := by
  by_cases h0 : i = 0
  · subst h0; rw [M.tree.v0]; exact ht
  · have h1 := (M.tree.from_ i (by omega) hi).2.1
    have h2 := (Ch.scE_mem _ _).1 h1
    unfold Ch.prE at h2
    obtain ⟨e, he, h3⟩ := List.mem_map.1 h2
    simp only [Prod.mk.injEq] at h3
    rw [← h3.2]
    exact (hr e he).2
end Go.Proofs.Ytmolddlmjojceaa
