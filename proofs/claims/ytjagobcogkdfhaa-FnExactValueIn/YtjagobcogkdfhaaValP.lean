
/- PROVED: at every list of leaves and every key the law FnExactValueIn returns true and leaves its arguments as they were: ValueIn of the program answers as the model's, and writes into no argument. No condition. -/
import Derived.Test.YtjagobcogkdfhaaRows
import Derived.Test.YtjagobcogkdfhaaFacts
import Derived.Test.YtjagobcogkdfhaaValL
import Derived.Test.YtjagobcogkdfhaaOpenL
namespace Go.Proofs.Ytjagobcogkdfhaa
open Go.ChangeShapes Go.WideShapes Go.ChangeAt Go.RowKit Go.Joins Go.Deep

set_option maxRecDepth 100000 in
theorem valueIn_lifted (os : Os) (started : os.Started) (H : Type) (enc : TypeId × Value → H) :
    ReturnsInHanded {} Try.checked os 11 .any (Rows.fnExactValueInSpec.pre6 enc Try.prog Try.f11 Rows.fnExactValueInRow.domain false) (Rows.fnExactValueInSpec.post enc Try.prog Try.f11 false true false false) := by
  refine returnsInHanded_of_change (C := Try.checked) Try.own started (by kernel_rfl) Try.func11
    (ChangeSpec.witness6 (enc := enc) (C := Try.checked) false ⟨#[], #[.slice none 0 0, .int .i64 0], []⟩ 8 (by kernel_rfl) (by kernel_rfl) (by kernel_rfl) (by kernel_rfl)) ?_
  intro W base args ds gs before hval0 hW hcnd _
  have hval : ∀ (j : Nat) t v, Try.f11.params[j]? = some t → args[j]? = some v → Value.okWide Try.prog W .any base t v := hval0
  have hW' := hW
  obtain ⟨p, q, hA0, hV, rfl, hfz, hnd⟩ := hW
  have hA : DataW.TrodAll enc Try.prog W 0 (fun _ => true) true Try.f11.params.toList args.toList ds p := hA0
  rw [Try.params11] at hA hval
  obtain ⟨v0, v1, d0, d1, p0, p1, rfl, rfl, rfl, h0, h1⟩ := trodAll_two hA
  obtain ⟨rfl, rfl⟩ := trodVars_none hV
  have k0 := h0
  have k1 := h1
  have lt1 : ∀ x ∈ p1, x.block < W.heap.size := by obtain ⟨m, hm⟩ := k1; exact DataW.trod_lt m _ _ _ hm
  have lt0 : ∀ x ∈ p0, x.block < W.heap.size := by obtain ⟨m, hm⟩ := k0; exact DataW.trod_lt m _ _ _ hm
  obtain ⟨a0, len0, cap0, rfl⟩ := okWide_slice Try.underlying90 (hval 0 90 v0 rfl rfl)
  obtain ⟨⟨ls, hr⟩, hlm⟩ := open_leaves h0
  obtain ⟨key, rfl⟩ := okWide_int Try.underlying2 (hval 1 2 v1 rfl rfl)
  clear hA0 hval0
  refine (lawValueIn_any a0 len0 cap0 key ls W hr hlm).mono fun e W' ⟨he, bel⟩ => ?_
  subst he
  exact ⟨_, rfl, _, _, _, [], _, [], hW', trodAll_mk1 (shut_bool Try.underlying4 _), trodAll_mk2 (Below.trod Try.laidOut (by kernel_rfl) (of_decide_eq_true (by kernel_rfl)) k0 bel lt0) (Below.trod Try.laidOut (by kernel_rfl) (of_decide_eq_true (by kernel_rfl)) k1 bel lt1), rfl, bel.frame _, fun h => by cases h⟩

theorem valueIn_unf : Try.prog.unfollowed 11 = false := by kernel_rfl
theorem valueIn_topo : topo Try.prog [11, 62, 132, 72, 141, 61, 40, 111, 172, 82, 42, 114, 113, 146, 118, 117, 59, 130, 170, 87, 129, 83, 144, 138, 137, 109, 84, 145, 60, 131, 70, 140, 58, 128, 68] = true := by kernel_rfl
theorem valueIn_rec : Try.prog.recurses 11 = false := recurses_no _ valueIn_topo (by kernel_rfl) valueIn_unf
theorem valueIn_closed : joinedFacts Try.prog 11 Try.f11 Rows.fnExactValueInSpec Rows.fnExactValueInRow = true := by
  unfold joinedFacts
  rw [valueIn_rec, Try.laidOut, Try.mapsRowed, Try.plainKeys, Try.stopsHeard, Try.mayEnter, Try.lifts, Try.maker]
  kernel_rfl

theorem valueIn_holds : Rows.FnExactValueInSaid :=
  OpenClaim.holds_of_wide 11 Try.f11 rfl rfl rfl rfl rfl rfl rfl ⟨rfl, rfl, rfl, rfl, rfl⟩ rfl rfl rfl rfl rfl (by kernel_rfl) Try.func11 valueIn_closed
    (of_decide_eq_true (by kernel_rfl)) (by unfold Func.isWrapper; first | (rw [if_pos (by decide +kernel)]; kernel_rfl) | (rw [if_neg (by decide +kernel)]; exact ⟨rfl, rfl⟩))
    (fun os started H enc _ => valueIn_lifted os started H enc)
#print axioms valueIn_holds
end Go.Proofs.Ytjagobcogkdfhaa
