/- PROVED: at every list of rows the law FnExactPageFault returns true and leaves its argument as it was: PageFault of the program answers as the model's, and writes into no argument. No condition. -/
import Derived.Test.YthkbaabfhbjbgaaRows
import Derived.Test.YthkbaabfhbjbgaaPageW
import Derived.ProofKit
import Derived.OpenShut
import Derived.ChangeOld
import Derived.Deep.Slices
import Derived.Deep.Strs
namespace Go.Proofs.Ythkbaabfhbjbgaa
open Go.ChangeShapes Go.WideShapes Go.ChangeAt Go.RowKit

theorem PageP.own : ownKnob Try.prog.godebug = none := by kernel_rfl
theorem PageP.laidOut : laidOutB Try.prog = true := by kernel_rfl

theorem rcells_map (f : Nat → Ch.Row) (n i : Nat) (hi : i < n * 3) : (rcells ((List.range n).map f))[i]? = if i % 3 = 0 then some (.int .i64 (f (i / 3)).k) else if i % 3 = 1 then some (.int .i64 (f (i / 3)).v) else some (.bool (f (i / 3)).g) := by
  have hq : i / 3 < n := by omega
  obtain ⟨h0, h1, h2⟩ := rcells_at ((List.range n).map f) (i / 3) (by simpa using hq)
  have e : ((List.range n).map f).getD (i / 3) Ch.Row.zero = f (i / 3) := by simp [List.getD, hq]
  rw [e] at h0 h1 h2
  have hm : i % 3 = 0 ∨ i % 3 = 1 ∨ i % 3 = 2 := by omega
  rcases hm with hm | hm | hm
  · rw [if_pos hm, ← h0]; congr 1; omega
  · rw [if_neg (by omega), if_pos hm, ← h1]; congr 1; omega
  · rw [if_neg (by omega), if_neg (by omega), ← h2]; congr 1; omega

/-- A list of rows that came in, opened. -/
theorem open_rows {H : Type} {enc : TypeId × Value → H} {w : World} {base : Nat} {spare : Nat → Bool} {held : Bool} {a : Option Addr} {len cap : Nat} {d : DataW H} {p : List MemPlace}
    (hk : Try.prog.cellsOf 39 = 3) (k2 : Try.prog.cellsOf 2 = 1) (k4 : Try.prog.cellsOf 4 = 1) (h : DataW.Trod enc Try.prog w base spare held 42 (.slice a len cap) d p) : (∃ rs, CellsAt w a (len * 3) (rcells rs)) ∧ len ≤ maxLen := by
  obtain ⟨fuel, hf⟩ := h
  rcases Deep.open_slice Try.underlying42 hf with ⟨hcs, _⟩ | ⟨x, l, c, m, n, D, Pl, hcs, hb, hl, hm, hmm, _, hx⟩
  · simp [Value.cells] at hcs
    obtain ⟨rfl, rfl, rfl⟩ := hcs
    exact ⟨⟨[], rfl, fun h => absurd h (by simp)⟩, by simp⟩
  · simp [Value.cells] at hcs
    obtain ⟨rfl, rfl, rfl⟩ := hcs
    refine ⟨?_, by omega⟩
    have hlm : len ≤ m := by rw [hmm]; split <;> omega
    rw [hk] at hx
    obtain ⟨f, hf⟩ := @Deep.choose_lt Ch.Row ⟨Ch.Row.zero⟩ len (fun i r => w.cell? (x.add (i * 3)) = some (.int .i64 r.k) ∧ w.cell? (x.add (i * 3 + 1)) = some (.int .i64 r.v) ∧ w.cell? (x.add (i * 3 + 2)) = some (.bool r.g)) (fun i hi => by
      obtain ⟨cs', h1, h2⟩ := hx i (by omega)
      obtain ⟨_, hlen, hcell⟩ := World.cells?_some h1
      obtain ⟨y0, y1, y2, n', _, _, g0, g1, g2⟩ := Deep.trod_struct3 Try.underlying39 h2
      match cs', hlen with
      | [c0, c1, c2], _ =>
        simp only [k2, k4, List.drop_zero, List.take_succ_cons, List.take_zero, List.drop_succ_cons] at g0 g1 g2
        obtain ⟨rk, e0, _, _⟩ := DataW.trod_int Try.underlying2 g0
        obtain ⟨rv, e1, _, _⟩ := DataW.trod_int Try.underlying2 g1
        obtain ⟨rg, e2, _⟩ := DataW.trod_bool Try.underlying4 g2
        simp only [List.cons.injEq, and_true] at e0 e1 e2
        subst e0 e1 e2
        have q0 := hcell 0 (by omega)
        have q1 := hcell 1 (by omega)
        have q2 := hcell 2 (by omega)
        rw [Deep.add_add] at q0 q1 q2
        exact ⟨⟨rk, rv, rg⟩, q0, q1, q2⟩)
    refine ⟨(List.range len).map f, by rw [rcells_len]; simp, fun hpos => ?_⟩
    obtain ⟨b, off, spot⟩ := x
    have hspot : spot = none := by
      have := World.cell?_spot (hf 0 (by omega)).1
      simpa [Addr.add] using this
    subst hspot
    refine ⟨b, off, rfl, fun i hi => ?_⟩
    rw [rcells_map f len i hi]
    obtain ⟨q0, q1, q2⟩ := hf (i / 3) (by omega)
    simp only [add_plain] at q0 q1 q2
    have hm3 : i % 3 = 0 ∨ i % 3 = 1 ∨ i % 3 = 2 := by omega
    rcases hm3 with h3 | h3 | h3
    · rw [if_pos h3, ← q0]; congr 2; omega
    · rw [if_neg (by omega), if_pos h3, ← q1]; congr 2; omega
    · rw [if_neg (by omega), if_neg (by omega), ← q2]; congr 2; omega

set_option maxRecDepth 100000 in
theorem page_lifted (os : Os) (started : os.Started) (H : Type) (enc : TypeId × Value → H) :
    ReturnsInHanded {} Try.checked os 5 .any (Rows.fnExactPageFaultSpec.pre6 enc Try.prog Try.f5 Rows.fnExactPageFaultRow.domain false) (Rows.fnExactPageFaultSpec.post enc Try.prog Try.f5 false true false false) := by
  refine returnsInHanded_of_change (C := Try.checked) PageP.own started (by kernel_rfl) Try.func5
    (ChangeSpec.witness6 (enc := enc) (C := Try.checked) false ⟨#[], #[.slice none 0 0], []⟩ 8 (by kernel_rfl) (by kernel_rfl) (by kernel_rfl) (by kernel_rfl)) ?_
  intro W base args ds gs before hval0 hW hcnd _
  have hval : ∀ (j : Nat) t v, Try.f5.params[j]? = some t → args[j]? = some v → Value.okWide Try.prog W .any base t v := hval0
  have hW' := hW
  obtain ⟨p, q, hA0, hV, rfl, hfz, hnd⟩ := hW
  have hA : DataW.TrodAll enc Try.prog W 0 (fun _ => true) true Try.f5.params.toList args.toList ds p := hA0
  rw [Try.params5] at hA hval
  obtain ⟨v0, d0, rfl, rfl, h0⟩ := trodAll_one hA
  obtain ⟨rfl, rfl⟩ := trodVars_none hV
  have k0 := h0
  have lt0 : ∀ x ∈ p, x.block < W.heap.size := by obtain ⟨m, hm⟩ := k0; exact DataW.trod_lt m _ _ _ hm
  obtain ⟨a0, len0, cap0, rfl⟩ := okWide_slice Try.underlying42 (hval 0 42 v0 rfl rfl)
  obtain ⟨⟨rs, hr⟩, hlm⟩ := open_rows (by kernel_rfl) (by kernel_rfl) (by kernel_rfl) h0
  clear hA0 hval0
  refine (lawPage_any a0 len0 cap0 rs W hr (by unfold maxLen at hlm; exact hlm)).mono fun e W' ⟨he, bel⟩ => ?_
  subst he
  exact ⟨_, rfl, _, _, _, [], _, [], hW', trodAll_mk1 (shut_bool Try.underlying4 _), trodAll_mk1 (Below.trod PageP.laidOut (by kernel_rfl) (of_decide_eq_true (by kernel_rfl)) k0 bel lt0), rfl, bel.frame _, fun h => by cases h⟩

theorem pageFault_holds : Rows.FnExactPageFaultSaid :=
  OpenClaim.holds_of_wide 5 Try.f5 rfl rfl rfl rfl rfl rfl rfl ⟨rfl, rfl, rfl, rfl, rfl⟩ rfl rfl rfl rfl rfl (by kernel_rfl) Try.func5 (by kernel_rfl)
    (of_decide_eq_true (by kernel_rfl)) (by unfold Func.isWrapper; first | (rw [if_pos (by decide +kernel)]; kernel_rfl) | (rw [if_neg (by decide +kernel)]; exact ⟨rfl, rfl⟩))
    (fun os started H enc _ => page_lifted os started H enc)
#print axioms pageFault_holds
end Go.Proofs.Ythkbaabfhbjbgaa
