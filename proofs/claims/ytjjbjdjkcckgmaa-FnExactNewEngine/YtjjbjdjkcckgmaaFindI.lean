
/- FindRow of the program. -/
import Derived.Test.YtjjbjdjkcckgmaaFindW
namespace Go.Proofs.Ytjjbjdjkcckgmaa
open Go.RowKit Go.Maps

theorem Try.zeroPlace (w : World) : (zeroValue 72).run Try.prog w = .ok (.agg #[.int .i64 0, .int .i64 0]) w := by kernel_rfl

/-- A look-up in the map of places. -/
theorem wpList_look {ops : Array Oper} {rest : List Oper} {o : Oper} {a : Act} {w : World} {Q : Exit → Act → World → Prop} (m x : Operand) (B N : Nat) (D : DataW Unit) (key : Int) (i j : Nat) (bb : Bool)
    (hop : o.op = Op.lookup 74 m x true) (hg : o.guard = none) (hm : a.eval m = .map (some B)) (hx : a.eval x = .int .i64 key) (hown : w.ownsMap Try.prog 2 plElem B N D) (h0 : 0 ≤ key) (h1 : key ≤ 99)
    (hb : Maps.has D (kk key) = bb) (hat : D.atKey (kk key) (pl 0 0) = pl i j) (hK : wpList Try.prog ops Q rest (a.put o.dst (.tuple #[.agg #[.int .i64 i, .int .i64 j], .bool bb])) w) : wpList Try.prog ops Q (o :: rest) a w := by
  refine wpList_lookup_own_ok w hg m x 74 hop 2 72 Try.keyed Try.underlying74 plElem (Try.zeroPlace w) (pl 0 0) [] (plElem_mk 0 0) B N D hm hown _ (kk key) hx (kk_key h0 h1) ?_
  intro v ps hv
  rw [hat] at hv
  rw [plElem_inv hv, hb]
  exact hK

theorem Pl.none {ls : List (List Ch.Row)} {D : DataW Unit} {key : Int} (h : Pl ls D ls.length 0) (hf : Ch.findR ls key = none) : Maps.has D (kk key) = false ∧ D.atKey (kk key) (pl 0 0) = pl 0 0 := by
  have hh : Maps.has D (kk key) = false := by
    cases hb : Maps.has D (kk key)
    · rfl
    · obtain ⟨i, j, hi, hj, he⟩ := h.no key hb
      exact absurd he (Ch.find_none hf i j hi hj)
  exact ⟨hh, atKey_of_not_has hh _⟩
theorem Pl.some {ls : List (List Ch.Row)} {D : DataW Unit} {key : Int} {r : Ch.Row} (h : Pl ls D ls.length 0) (hf : Ch.findR ls key = some r) : ∃ i j, i < ls.length ∧ j < (ls.getD i []).length ∧ Ch.rowAt ls i j = r ∧ r.k = key ∧ Maps.has D (kk key) = true ∧ D.atKey (kk key) (pl 0 0) = pl i j := by
  obtain ⟨i, j, hi, hj, hr, hk⟩ := Ch.find_some hf
  have := h.yes i j (.inl hi) hi hj
  have e : Ch.keyAt ls i j = key := by unfold Ch.keyAt; rw [hr]; exact hk
  rw [e] at this
  exact ⟨i, j, hi, hj, hr, hk, this.1, this.2 _⟩
theorem inB_key {key : Int} (h : Ch.inB key 0 99 = true) : 0 ≤ key ∧ key ≤ 99 := by
  unfold Ch.inB at h
  simpa using h

end Go.Proofs.Ytjjbjdjkcckgmaa
