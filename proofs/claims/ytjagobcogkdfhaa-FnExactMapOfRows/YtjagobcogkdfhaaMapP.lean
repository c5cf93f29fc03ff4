
/- PROVED: at every list of rows the law FnExactMapOfRows returns true and leaves its argument as it was: MapOfRows of the program answers as the model's, writes into no argument, and its answer is its own memory. No condition. -/
import Derived.Test.YtjagobcogkdfhaaRows
import Derived.Test.YtjagobcogkdfhaaFacts
import Derived.Test.YtjagobcogkdfhaaMapL
import Derived.Test.YtjagobcogkdfhaaOpenB
namespace Go.Proofs.Ytjagobcogkdfhaa
open Go.ChangeShapes Go.WideShapes Go.ChangeAt Go.RowKit Go.Joins Go.Deep

set_option maxRecDepth 100000 in
theorem mapOfRows_lifted (os : Os) (started : os.Started) (H : Type) (enc : TypeId × Value → H) :
    ReturnsInHanded {} Try.checked os 14 .any (Rows.fnExactMapOfRowsSpec.pre6 enc Try.prog Try.f14 Rows.fnExactMapOfRowsRow.domain false) (Rows.fnExactMapOfRowsSpec.post enc Try.prog Try.f14 false true false false) := by
  refine returnsInHanded_of_change (C := Try.checked) Try.own started (by kernel_rfl) Try.func14
    (ChangeSpec.witness6 (enc := enc) (C := Try.checked) false ⟨#[], #[.slice none 0 0], []⟩ 8 (by kernel_rfl) (by kernel_rfl) (by kernel_rfl) (by kernel_rfl)) ?_
  intro W base args ds gs before hval0 hW hcnd _
  have hval : ∀ (j : Nat) t v, Try.f14.params[j]? = some t → args[j]? = some v → Value.okWide Try.prog W .any base t v := hval0
  have hW' := hW
  obtain ⟨p, q, hA0, hV, rfl, hfz, hnd⟩ := hW
  have hA : DataW.TrodAll enc Try.prog W 0 (fun _ => true) true Try.f14.params.toList args.toList ds p := hA0
  rw [Try.params14] at hA hval
  obtain ⟨v0, d0, rfl, rfl, h0⟩ := trodAll_one hA
  obtain ⟨rfl, rfl⟩ := trodVars_none hV
  have k0 := h0
  have lt0 : ∀ x ∈ p, x.block < W.heap.size := by obtain ⟨m, hm⟩ := k0; exact DataW.trod_lt m _ _ _ hm
  obtain ⟨a0, len0, cap0, rfl⟩ := okWide_slice Try.underlying102 (hval 0 102 v0 rfl rfl)
  obtain ⟨⟨ls, hr⟩, hlm⟩ := open_rows h0
  clear hA0 hval0
  refine (lawMapOf_any a0 len0 cap0 ls W hr hlm).mono fun e W' ⟨he, bel⟩ => ?_
  subst he
  exact ⟨_, rfl, _, _, _, [], _, [], hW', trodAll_mk1 (shut_bool Try.underlying4 _), trodAll_mk1 (Below.trod Try.laidOut (by kernel_rfl) (of_decide_eq_true (by kernel_rfl)) k0 bel lt0), rfl, bel.frame _, fun h => by cases h⟩

theorem mapOfRows_unf : Try.prog.unfollowed 14 = false := by kernel_rfl
theorem mapOfRows_topo : topo Try.prog [14, 75, 142, 74, 73, 71, 72, 141, 21, 86, 146, 118, 117, 69, 139, 138, 137, 109, 84, 145, 70, 140, 68] = true := by kernel_rfl
theorem mapOfRows_rec : Try.prog.recurses 14 = false := recurses_no _ mapOfRows_topo (by kernel_rfl) mapOfRows_unf
theorem mapOfRows_closed : joinedFacts Try.prog 14 Try.f14 Rows.fnExactMapOfRowsSpec Rows.fnExactMapOfRowsRow = true := by
  unfold joinedFacts
  rw [mapOfRows_rec, Try.laidOut, Try.mapsRowed, Try.plainKeys, Try.stopsHeard, Try.mayEnter, Try.lifts, Try.maker]
  kernel_rfl

theorem mapOfRows_holds : Rows.FnExactMapOfRowsSaid :=
  OpenClaim.holds_of_wide 14 Try.f14 rfl rfl rfl rfl rfl rfl rfl ⟨rfl, rfl, rfl, rfl, rfl⟩ rfl rfl rfl rfl rfl (by kernel_rfl) Try.func14 mapOfRows_closed
    (of_decide_eq_true (by kernel_rfl)) (by unfold Func.isWrapper; first | (rw [if_pos (by decide +kernel)]; kernel_rfl) | (rw [if_neg (by decide +kernel)]; exact ⟨rfl, rfl⟩))
    (fun os started H enc _ => mapOfRows_lifted os started H enc)
#print axioms mapOfRows_holds
end Go.Proofs.Ytjagobcogkdfhaa
