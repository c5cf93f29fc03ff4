
/- The program's set of edges: one more, those that hold in the way, those ahead. -/
import Derived.Test.YtmolddlmjojceaaEdT
import Derived.Test.YtmolddlmjojceaaDrawA
namespace Go.Proofs.Ytmolddlmjojceaa
open Go.RowKit Go.Maps

/-- What the set holds. -/
structure MpE (es : List Ch.Hold) (D : DataW Unit) : Prop where
  has : ∀ e ∈ es, Maps.has D (ke e.t e.m) = true
  only : ∀ kl, Maps.has D kl = true → ∃ e ∈ es, kl = ke e.t e.m
theorem MpE.empty : MpE [] (.map []) := ⟨fun e he => by simp at he, fun kl h => by cases h⟩
theorem ke_isKey (t m : Int) : WideAt.IsKeyLit (ke t m) := by unfold ke; simp [DataW.asKey, WideAt.IsKeyLit]
theorem MpE.put {es : List Ch.Hold} {D : DataW Unit} (h : MpE es D) (hD : Tidy D) (d : DataW Unit) (t m : Int) : MpE (es ++ [⟨t, m⟩]) (D.put (ke t m) d) := by
  refine ⟨fun e he => ?_, fun kl hk => ?_⟩
  · by_cases hke : ke e.t e.m = ke t m
    · rw [hke, has_put_same hD.isMap (ke_isKey t m)]
    · rw [has_put_other hke]
      rcases List.mem_append.1 he with he | he
      · exact h.has e he
      · rw [List.mem_singleton.1 he] at hke; exact absurd rfl hke
  · by_cases hke : kl = ke t m
    · exact ⟨⟨t, m⟩, by simp, hke⟩
    · rw [has_put_other hke] at hk
      obtain ⟨e, he, hx⟩ := h.only kl hk
      exact ⟨e, by simp [he], hx⟩

set_option maxHeartbeats 1000000 in
theorem addE_any (b q : Nat) (D : DataW Unit) (t m : Int) (w : World) (own : w.ownsMap Try.prog 33 unitElem b q D) (hq : q ≤ 1048576) (h1 : 1 ≤ t ∧ t ≤ 999) (h2 : 1 ≤ m ∧ m ≤ 999) :
    Calls Try.prog 30 #[.map (some b), .int .i64 t, .int .i64 m] w fun e w' => e = .returned (.tuple #[]) ∧ w'.ownsMap Try.prog 33 unitElem b (q + 1) (D.put (ke t m) (.agg [])) ∧ w.grownBy w' (some b) := by
  have hkey := ke_key w h1 h2
  clear h1 h2
  go_enter Try.func30, Try.ntmps30
  go_wp2_with (at_mapUpdate; go_must (refine wpList_mapUpdate_own _ rfl _ _ _ 42 rfl 33 66 Try.keyedE Try.underlying42 unitElem b q D rfl own ?_ _ _ _ rfl rfl hkey _ [] unitElem_mk ?_; (focus (unfold maxLen; omega)); intro w1 own1 gr1))
  go_end0
  exact ⟨rfl, own1, gr1⟩
theorem map_below {w w' : World} {b q : Nat} {D : DataW Unit} (h : w.ownsMap Try.prog 33 unitElem b q D) (hb : Below w.heap.size w w') : w'.ownsMap Try.prog 33 unitElem b q D := h.kept (gr_below hb none) (by simp)
theorem gr_mapB {w w' w'' : World} {b : Nat} (h : w.grownBy w' (some b)) (hb : Below w'.heap.size w' w'') : w.grownBy w'' (some b) := gr_on h (hb.mono h.size)

end Go.Proofs.Ytmolddlmjojceaa
