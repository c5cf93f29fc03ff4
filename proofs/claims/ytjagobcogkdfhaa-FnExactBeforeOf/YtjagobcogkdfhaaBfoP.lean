
/- PROVED: at every list of leaves and every key the law FnExactBeforeOf returns true and leaves its arguments as they were: BeforeOf of the program answers as the model's, and writes into no argument. No condition. -/
import Derived.Test.YtjagobcogkdfhaaRows
import Derived.Test.YtjagobcogkdfhaaFacts
import Derived.Test.YtjagobcogkdfhaaBfoL
import Derived.Test.YtjagobcogkdfhaaOpenL
namespace Go.Proofs.Ytjagobcogkdfhaa
open Go.ChangeShapes Go.WideShapes Go.ChangeAt Go.RowKit Go.Joins Go.Deep

set_option maxRecDepth 100000 in
theorem beforeOf_lifted (os : Os) (started : os.Started) (H : Type) (enc : TypeId × Value → H) :
    ReturnsInHanded {} Try.checked os 15 .any (Rows.fnExactBeforeOfSpec.pre6 enc Try.prog Try.f15 Rows.fnExactBeforeOfRow.domain false) (Rows.fnExactBeforeOfSpec.post enc Try.prog Try.f15 false true false false) := by
  refine returnsInHanded_of_change (C := Try.checked) Try.own started (by kernel_rfl) Try.func15
    (ChangeSpec.witness6 (enc := enc) (C := Try.checked) false ⟨#[], #[.slice none 0 0, .int .i64 0], []⟩ 8 (by kernel_rfl) (by kernel_rfl) (by kernel_rfl) (by kernel_rfl)) ?_
  intro W base args ds gs before hval0 hW hcnd _
  have hval : ∀ (j : Nat) t v, Try.f15.params[j]? = some t → args[j]? = some v → Value.okWide Try.prog W .any base t v := hval0
  have hW' := hW
  obtain ⟨p, q, hA0, hV, rfl, hfz, hnd⟩ := hW
  have hA : DataW.TrodAll enc Try.prog W 0 (fun _ => true) true Try.f15.params.toList args.toList ds p := hA0
  rw [Try.params15] at hA hval
  obtain ⟨v0, v1, d0, d1, p0, p1, rfl, rfl, rfl, h0, h1⟩ := trodAll_two hA
  obtain ⟨rfl, rfl⟩ := trodVars_none hV
  have k0 := h0
  have k1 := h1
  have lt1 : ∀ x ∈ p1, x.block < W.heap.size := by obtain ⟨m, hm⟩ := k1; exact DataW.trod_lt m _ _ _ hm
  have lt0 : ∀ x ∈ p0, x.block < W.heap.size := by obtain ⟨m, hm⟩ := k0; exact DataW.trod_lt m _ _ _ hm
  obtain ⟨a0, len0, cap0, rfl⟩ := okWide_slice Try.underlying90 (hval 0 90 v0 rfl rfl)
  obtain ⟨⟨ls, hr⟩, hlm⟩ := open_leaves h0
  obtain ⟨key, rfl⟩ := okWide_int Try.underlying2 (hval 1 2 v1 rfl rfl)
  clear hA0 hval0
  refine (lawBeforeOf_any a0 len0 cap0 key ls W hr hlm).mono fun e W' ⟨he, bel⟩ => ?_
  subst he
  exact ⟨_, rfl, _, _, _, [], _, [], hW', trodAll_mk1 (shut_bool Try.underlying4 _), trodAll_mk2 (Below.trod Try.laidOut (by kernel_rfl) (of_decide_eq_true (by kernel_rfl)) k0 bel lt0) (Below.trod Try.laidOut (by kernel_rfl) (of_decide_eq_true (by kernel_rfl)) k1 bel lt1), rfl, bel.frame _, fun h => by cases h⟩

theorem beforeOf_unf : Try.prog.unfollowed 15 = false := by kernel_rfl
theorem beforeOf_topo : topo Try.prog [15, 62, 132, 72, 141, 77, 39, 40, 111, 172, 82, 42, 114, 113, 146, 118, 117, 76, 130, 170, 87, 129, 83, 144, 138, 137, 109, 84, 145, 60, 131, 70, 140, 58, 128, 68] = true := by kernel_rfl
theorem beforeOf_rec : Try.prog.recurses 15 = false := recurses_no _ beforeOf_topo (by kernel_rfl) beforeOf_unf
theorem beforeOf_closed : joinedFacts Try.prog 15 Try.f15 Rows.fnExactBeforeOfSpec Rows.fnExactBeforeOfRow = true := by
  unfold joinedFacts
  rw [beforeOf_rec, Try.laidOut, Try.mapsRowed, Try.plainKeys, Try.stopsHeard, Try.mayEnter, Try.lifts, Try.maker]
  kernel_rfl

theorem beforeOf_holds : Rows.FnExactBeforeOfSaid :=
  OpenClaim.holds_of_wide 15 Try.f15 rfl rfl rfl rfl rfl rfl rfl ⟨rfl, rfl, rfl, rfl, rfl⟩ rfl rfl rfl rfl rfl (by kernel_rfl) Try.func15 beforeOf_closed
    (of_decide_eq_true (by kernel_rfl)) (by unfold Func.isWrapper; first | (rw [if_pos (by decide +kernel)]; kernel_rfl) | (rw [if_neg (by decide +kernel)]; exact ⟨rfl, rfl⟩))
    (fun os started H enc _ => beforeOf_lifted os started H enc)
#print axioms beforeOf_holds
end Go.Proofs.Ytjagobcogkdfhaa
