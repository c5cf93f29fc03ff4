
/- The map of places by key. -/
import Derived.Test.YtjjbjdjkcckgmaaAllI
import Derived.Test.YtjjbjdjkcckgmaaPlaceM
import Derived.Maps.OwnSet
import Derived.Maps.OwnOps
namespace Go.Proofs.Ytjjbjdjkcckgmaa
open Go.RowKit Go.Maps

/-- How a place reads. -/
def plElem (v : Value) : Option (DataW Unit × List MemPlace) :=
  match v with
  | .agg a => match a.toList with
    | [.int .i64 l, .int .i64 t] => some (.agg [.lit (.int .i64 l), .lit (.int .i64 t)], [])
    | _ => none
  | _ => none
def kk (key : Int) : Lit := .int .i64 key
def pl (i j : Nat) : DataW Unit := .agg [.lit (.int .i64 i), .lit (.int .i64 j)]
theorem plElem_mk (l t : Int) : plElem (.agg #[.int .i64 l, .int .i64 t]) = some (.agg [.lit (.int .i64 l), .lit (.int .i64 t)], []) := rfl
theorem plElem_inv {v : Value} {l t : Int} {ps : List MemPlace} (h : plElem v = some (.agg [.lit (.int .i64 l), .lit (.int .i64 t)], ps)) : v = .agg #[.int .i64 l, .int .i64 t] := by
  unfold plElem at h
  split at h
  · rename_i a
    split at h
    · rename_i l' t' he
      simp at h
      obtain ⟨⟨rfl, rfl⟩, _⟩ := h
      have : a = #[.int .i64 l', .int .i64 t'] := by
        cases a
        simpa using he
      rw [this]
    · simp at h
  · simp at h
theorem Try.keyed : Keyed Try.prog 2 := int_keyed Try.underlying2
theorem kk_key {key : Int} (h0 : 0 ≤ key) (h1 : key ≤ 99) : keyOf Try.prog 2 (.int .i64 key) = some (kk key) := keyOf_int_mk Try.underlying2 (WalkArith.wf_i64 (by omega))
theorem kk_isKey (key : Int) : WideAt.IsKeyLit (kk key) := by unfold kk; simp [WideAt.IsKeyLit]
theorem kk_ne {a b : Int} (h : a ≠ b) : kk a ≠ kk b := by unfold kk; simpa using h

/-- What the map holds ahead of the row m of the leaf k. -/
structure Pl (ls : List (List Ch.Row)) (D : DataW Unit) (k m : Nat) : Prop where
  yes : ∀ i j, (i < k ∨ i = k ∧ j < m) → i < ls.length → j < (ls.getD i []).length → Maps.has D (kk (Ch.keyAt ls i j)) = true ∧ ∀ z, D.atKey (kk (Ch.keyAt ls i j)) z = pl i j
  no : ∀ key, Maps.has D (kk key) = true → ∃ i j, i < ls.length ∧ j < (ls.getD i []).length ∧ Ch.keyAt ls i j = key

theorem Pl.empty (ls : List (List Ch.Row)) : Pl ls (.map []) 0 0 := by
  refine ⟨fun i j h => ?_, fun key h => ?_⟩
  · omega
  · simp [Maps.has] at h
theorem Pl.leaf {ls : List (List Ch.Row)} {D : DataW Unit} {k m : Nat} (h : Pl ls D k m) (hm : (ls.getD k []).length ≤ m) : Pl ls D (k + 1) 0 := by
  refine ⟨fun i j hij hi hj => h.yes i j ?_ hi hj, h.no⟩
  by_cases hik : i = k
  · subst hik; right; exact ⟨rfl, by omega⟩
  · left; omega
theorem Pl.put {ls : List (List Ch.Row)} {D : DataW Unit} {k m : Nat} (h : Pl ls D k m) (hg : Ch.leavesFault ls = 0) (hk : k < ls.length) (hm : m < (ls.getD k []).length) (hD : IsMap D) : Pl ls (D.put (kk (Ch.keyAt ls k m)) (pl k m)) k (m + 1) := by
  refine ⟨fun i j hij hi hj => ?_, fun key hkey => ?_⟩
  · by_cases he : i = k ∧ j = m
    · obtain ⟨rfl, rfl⟩ := he
      exact ⟨has_put_same hD (kk_isKey _) _, fun z => atKey_put_same hD (kk_isKey _) _ z⟩
    · have hne : Ch.keyAt ls i j ≠ Ch.keyAt ls k m := fun e => he (Ch.keys_apart hg hi hj hk hm e)
      have := h.yes i j (by omega) hi hj
      exact ⟨by rw [has_put_other (kk_ne hne)]; exact this.1, fun z => by rw [atKey_put_other (kk_ne hne)]; exact this.2 z⟩
  · by_cases he : key = Ch.keyAt ls k m
    · exact ⟨k, m, hk, hm, he.symm⟩
    · rw [has_put_other (kk_ne he)] at hkey
      exact h.no key hkey

set_option maxHeartbeats 1600000 in
theorem places_any (a : Option Addr) (n cap : Nat) (ls : List (List Ch.Row)) (w : World) (h : LvAt w a n ls) (hg : Ch.leavesFault ls = 0) :
    Calls Try.prog 35 #[.slice a n cap] w fun e w' => ∃ N D, e = .returned (.map (some w.heap.size)) ∧ w'.ownsMap Try.prog 2 plElem w.heap.size N D ∧ Pl ls D ls.length 0 ∧ Below w.heap.size w w' := by
  have HL := h.len
  have HG := hid hg
  have hn : n ≤ 60 := by have := Ch.good_len hg; have := HL.out; omega
  have hmm := @run_makeMap Try.prog
  have hmade := World.ownsMap_made w Try.prog 2 plElem
  clear hg
  go_enter Try.func35, Try.ntmps35
  go_wp2
  go_loopw [11] (fun i wr => ∃ (k : Nat) (D : DataW Unit), k ≤ n ∧ i = .int .i64 k ∧ wr.ownsMap Try.prog 2 plElem w.heap.size (k * 4) D ∧ Pl ls D k 0 ∧ Below w.heap.size w wr) (fun i _ => n - (intOf i).toNat)
  case atStart => exact ⟨0, _, Nat.zero_le _, rfl, hmade, Pl.empty ls, (Below.refl _ _).alloc (Nat.le_refl _) _⟩
  case round =>
    obtain ⟨k, D, hk, rfl, own, hP, hB⟩ := hrel
    by_cases hlt : k < n
    · have hkl : k < ls.length := by have := HL.out; omega
      have HF := hid (fun j => Ch.key_fits HG.out j hkl)
      have HS := hid (Ch.allFit_of_page (Ch.good_leaf HG.out k hkl).2).2
      obtain ⟨b, off, ai, ni, ci, rfl, hc, hr, hni⟩ := h.leaf hlt
      replace hc := keep_cell hB hc
      have hbl := lt_of_cell hc
      have HRl := hr.rlen
      have hni4 : ni ≤ 4 := by have := HS.out; have := HRl.out; omega
      go_wp2
      go_loopw [19] (fun i wq => ∃ (m : Nat) (D : DataW Unit), m ≤ ni ∧ i = .int .i64 m ∧ wq.ownsMap Try.prog 2 plElem w.heap.size (k * 4 + m) D ∧ Pl ls D k m ∧ Below w.heap.size w wq) (fun i _ => ni - (intOf i).toNat)
      case atStart => exact ⟨0, D, Nat.zero_le _, rfl, own.alloc _, hP, hB.alloc hB.size _⟩
      case round =>
        obtain ⟨m, D', hm, rfl, own', hP', hB'⟩ := hrel
        by_cases hlt' : m < ni
        · have HFm := hid (HF.out m)
          have HP1 := hid (hP'.put HG.out hkl (by have := HRl.out; omega) own'.isMap)
          obtain ⟨b1, o1, rfl, q0, q1, q2⟩ := (hr.below hB').row hlt'
          have hbl1 := lt_of_cell q0
          have HK : Hid (Ch.keyAt ls k m = ((ls.getD k []).getD m Ch.Row.zero).k) := rfl
          generalize (ls.getD k []).getD m Ch.Row.zero = r at *
          obtain ⟨rk, rv, rg⟩ := r
          simp only at q0 q1 q2 HK
          have hkey := kk_key (key := rk) (by have := HFm.out.1; have := HK.out; omega) (by have := HFm.out.2; have := HK.out; omega)
          go_wp2_with (at_mapUpdate; go_must (refine wpList_mapUpdate_own _ rfl _ _ _ 74 rfl 2 72 Try.keyed Try.underlying74 plElem w.heap.size (k * 4 + m) D' rfl (own'.alloc _) ?_ _ _ _ rfl rfl hkey _ [] (plElem_mk _ _) ?_; (focus (unfold maxLen; omega)); intro w1 own1 gr1))
          go_roundw
          case rel =>
            refine ⟨m + 1, _, by omega, by go_num, own1, ?_, ?_⟩
            · have := HP1.out
              rw [HK.out] at this
              exact this
            · exact (hB'.alloc hB'.size _).grown gr1 (by simp; exact Nat.le_trans hB'.size (by omega)) (fun j hj => by cases hj; exact Nat.le_refl _)
          case measure => simp [intOf]; omega
        · obtain rfl : m = ni := by omega
          go_wp2
          go_roundw
          case rel => exact ⟨k + 1, D', by omega, by go_num, own'.mono (by omega), hP'.leaf (by have := HRl.out; omega), hB'⟩
          case measure => simp [intOf]; omega
    · obtain rfl : k = n := by omega
      go_wp2
      go_ret
      exact ⟨_, D, rfl, own, by rw [← HL.out]; exact hP, hB⟩
end Go.Proofs.Ytjjbjdjkcckgmaa
