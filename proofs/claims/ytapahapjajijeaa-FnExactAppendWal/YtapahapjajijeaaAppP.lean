
/- PROVED: at every laws.Wal and every laws.Rec the law FnExactAppendWal returns true and leaves its arguments as they were: AppendWal of the program answers as the model's, writes into no argument, keeps nothing of one, and its answer owns its memory. No condition. -/
import Derived.Test.YtapahapjajijeaaRows
import Derived.Test.YtapahapjajijeaaAppL
import Derived.Test.YtapahapjajijeaaOpenW
namespace Go.Proofs.Ytapahapjajijeaa
open Go.ChangeShapes Go.WideShapes Go.ChangeAt Go.RowKit Go.Joins Go.Deep

theorem Try.cells67 : Try.prog.cellsOf 67 = 7 := by kernel_rfl

set_option maxRecDepth 100000 in
theorem appendWal_lifted (os : Os) (started : os.Started) (H : Type) (enc : TypeId × Value → H) :
    ReturnsInHanded {} Try.checked os 6 .any (Rows.fnExactAppendWalSpec.pre6 enc Try.prog Try.f6 Rows.fnExactAppendWalRow.domain false) (Rows.fnExactAppendWalSpec.post enc Try.prog Try.f6 false true false false) := by
  refine returnsInHanded_of_change (C := Try.checked) Try.own started (by kernel_rfl) Try.func6
    (ChangeSpec.witness6 (enc := enc) (C := Try.checked) false ⟨#[], #[.agg #[.slice none 0 0, .slice none 0 0], .agg #[.int .i64 0, .int .i64 0, .int .i64 0, .bool false, .int .i64 0, .bool false, .int .i64 0]], []⟩ 8 (by kernel_rfl) (by kernel_rfl) (by kernel_rfl) (by kernel_rfl)) ?_
  intro W base args ds gs before hval0 hW hcnd _
  have hval : ∀ (j : Nat) t v, Try.f6.params[j]? = some t → args[j]? = some v → Value.okWide Try.prog W .any base t v := hval0
  have hW' := hW
  obtain ⟨p, q, hA0, hV, rfl, hfz, hnd⟩ := hW
  have hA : DataW.TrodAll enc Try.prog W 0 (fun _ => true) true Try.f6.params.toList args.toList ds p := hA0
  rw [Try.params6] at hA hval
  obtain ⟨v0, v1, d0, d1, p0, p1, rfl, rfl, rfl, h0, h1⟩ := trodAll_two hA
  obtain ⟨rfl, rfl⟩ := trodVars_none hV
  have k0 := h0
  have k1 := h1
  have lt1 : ∀ x ∈ p1, x.block < W.heap.size := by obtain ⟨m, hm⟩ := k1; exact DataW.trod_lt m _ _ _ hm
  have lt0 : ∀ x ∈ p0, x.block < W.heap.size := by obtain ⟨m, hm⟩ := k0; exact DataW.trod_lt m _ _ _ hm
  obtain ⟨a, n, cap, a', m, cap', ss, ls, rfl, hs, hl, hbs, hbl, hn, hm⟩ := open_wal (hval 0 66 v0 rfl rfl) h0
  obtain ⟨c0, c1, c2, c3, c4, c5, c6, y0, y1, y2, y3, y4, y5, y6, mf, rfl, hy0, hy1, hy2, hy3, hy4, hy5, hy6⟩ := open_agg7 Try.underlying67 (by kernel_rfl) Try.cells67 (hval 1 67 v1 rfl rfl) h1
  obtain ⟨kd, e0, _, _⟩ := DataW.trod_int Try.underlying2 hy0
  obtain ⟨tx, e1, _, _⟩ := DataW.trod_int Try.underlying2 hy1
  obtain ⟨ky, e2, _, _⟩ := DataW.trod_int Try.underlying2 hy2
  obtain ⟨hd, e3, _⟩ := DataW.trod_bool Try.underlying4 hy3
  obtain ⟨ol, e4, _, _⟩ := DataW.trod_int Try.underlying2 hy4
  obtain ⟨hsb, e5, _⟩ := DataW.trod_bool Try.underlying4 hy5
  obtain ⟨nw, e6, _, _⟩ := DataW.trod_int Try.underlying2 hy6
  simp at e0 e1 e2 e3 e4 e5 e6
  subst e0 e1 e2 e3 e4 e5 e6
  clear hA0 hval0
  refine (lawApp_any a a' n m cap cap' ss ls kd tx ky hd ol hsb nw W hs hl hbs hbl hn hm).mono fun e W' ⟨he, bel⟩ => ?_
  subst he
  exact ⟨_, rfl, _, _, _, [], _, [], hW', trodAll_mk1 (shut_bool Try.underlying4 _), trodAll_mk2 (Below.trod Try.laidOut (by kernel_rfl) (of_decide_eq_true (by kernel_rfl)) k0 bel lt0) (Below.trod Try.laidOut (by kernel_rfl) (of_decide_eq_true (by kernel_rfl)) k1 bel lt1), rfl, bel.frame _, fun h => by cases h⟩

theorem appendWal_holds : Rows.FnExactAppendWalSaid :=
  OpenClaim.holds_of_wide 6 Try.f6 rfl rfl rfl rfl rfl rfl rfl ⟨rfl, rfl, rfl, rfl, rfl⟩ rfl rfl rfl rfl rfl (by kernel_rfl) Try.func6 (by kernel_rfl)
    (of_decide_eq_true (by kernel_rfl)) (by unfold Func.isWrapper; first | (rw [if_pos (by decide +kernel)]; kernel_rfl) | (rw [if_neg (by decide +kernel)]; exact ⟨rfl, rfl⟩))
    (fun os started H enc _ => appendWal_lifted os started H enc)
#print axioms appendWal_holds
end Go.Proofs.Ytapahapjajijeaa
