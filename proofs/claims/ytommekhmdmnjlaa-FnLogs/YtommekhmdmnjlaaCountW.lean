
/- The count of records, by the iterator. -/
import Derived.Test.YtommekhmdmnjlaaSeqI
import Derived.RangeFuncBox
namespace Go.Proofs.Ytommekhmdmnjlaa
open Go.RowKit Go.Shelf

attribute [local go_sem] Oper.semAt_some

set_option maxRecDepth 100000 in
set_option maxHeartbeats 2000000 in
theorem countRecs_any (a : Option Addr) (n cap : Nat) (zs : List Int) (w : World) (h : CellsAt w a n (bts zs)) (hb : IsB zs) (hn : n ≤ 1048576) (hcap : n ≤ cap) :
    Calls Try.prog 57 #[.slice a n cap] w fun e w' => e = .returned (.int .i64 (Ch.reads zs).length) ∧ Below w.heap.size w w' := by
  have hrl : 5 * (Ch.reads zs).length ≤ n := Nat.le_trans (Ch.reads_le zs) (by have := Ch.used_le zs; have := h.len.out; omega)
  refine (callsIn_wide (n := 6)).1 ?_
  refine callsIn_of_wp_marks Try.func57 rfl trivial ?_ rfl
  simp only [Try.ntmps57, List.size_toArray, List.length_cons, List.length_nil, Nat.reduceAdd, Nat.reduceSub, Array.replicate_succ, Array.replicate_zero, List.push_toArray, List.append_toArray, List.nil_append, List.cons_append]
  gi_wp2_with fail
  refine ⟨trivial, (callsIn_wide.2 (recsOf_any a n cap _)).mono ?_⟩
  rintro e w' ⟨rfl, rfl⟩
  gi_wp2_with fail
  have hB0 : Below w.heap.size w ((w.alloc (.cells #[.int .i64 0] 2)).alloc (.cells #[.slice a n cap] 22)) := ((Below.refl _ w).alloc (Nat.le_refl _) _).alloc (by simp) _
  have hcB : ((w.alloc (.cells #[.int .i64 0] 2)).alloc (.cells #[.slice a n cap] 22)).cell? ⟨w.heap.size + 1, 0, none⟩ = some (.slice a n cap) := by
    simp
  refine wpIn_rangeFunc_ownG rfl (by decide) (gf := 59) (lb := #[.pointer (some ⟨w.heap.size + 1, 0, none⟩)]) rfl trivial (enters_of Try.func59 (by kernel_rfl) rfl)
    (recs_stops 5 (w.heap.size + 1) (by decide) a n cap zs w _ h hb hn hcap hB0 hcB) KpB.t (KpB.b (by simp; omega)) (Below.refl _ _) (fun _ => rfl)
    (fun pre W => (W.cell? ⟨w.heap.size, 0, none⟩ = some (.int .i64 pre.length) ∧ W.frozen? ⟨w.heap.size, 0, none⟩ = false) ∧ Below w.heap.size w W)
    (fun _ _ _ => False)
    (OwnFrom.and (Own.from (fun s A B row hs hg hr => ⟨cell_kept hs.1 hg hr, (frozen_kept hs.1 hg hr).trans hs.2⟩) _) (ownFrom_below (Nat.le_refl _) (by simp; omega)))
    (fun _ _ _ _ _ hs _ _ => hs)
    ⟨⟨by simp, by simp⟩, hB0⟩
    (fun x => { tmps := #[.slice a n cap, undef, .int .i64 0, .pointer (some ⟨w.heap.size, 0, none⟩), .slice a n cap, .func (.func 59) #[] #[.pointer (some ⟨w.heap.size + 1, 0, none⟩)], .int .i64 x.1, .agg #[.int .i64 x.2.kd, .int .i64 x.2.tx, .int .i64 x.2.ky, .bool x.2.hd, .int .i64 x.2.ol, .bool x.2.hs, .int .i64 x.2.nw], undef, undef, undef], defers := [] }) ?assign ?body ?done ?stop
  case assign =>
    intro l x W K hK
    gi_wp2
    simpa [encR] using hK
  case body =>
    rintro l pre x W ⟨⟨hc, hf⟩, hB⟩ hlt
    have hlt' : pre.length ≤ 1048576 := by omega
    generalize hp : pre.length = p at *
    gi_wp2
    refine ⟨(KeepsOthers.setCell _ _ _).from _, ⟨(Below.refl w.heap.size W).setCell (p := ⟨w.heap.size, 0, none⟩) (Nat.le_refl _) _, fun v hv => ?_⟩, ⟨?_, by rw [World.frozen?_setCell]; exact hf⟩, hB.setCell (p := ⟨w.heap.size, 0, none⟩) (Nat.le_refl _) _⟩
    · rw [World.cell?_setCell_other]
      · exact hv
      · simp
    · have e : ((pre ++ [x]).length : Int) = (p : Int) + 1 := by simp [hp]
      rw [e]
      exact World.cell?_setCell_same' _ _ _ (by rw [hc]; rfl)
  case done =>
    rintro D ys W hD rfl ⟨⟨hc, hf⟩, hB⟩ hK
    rw [Ch.ends_len] at hc
    gi_wp2
    refine ⟨by simp, .inl ⟨_, _, rfl, run_takeDeferred hK, ?_⟩⟩
    exact ⟨_, results_tmp rfl _ _ _, rfl, hB.trans (belowK_b (w := w) (Nat.le_refl _) W D _ _ (by simp at hD; omega) hK rfl rfl)⟩
  case stop =>
    rintro D c pre W _ _ h _
    exact h.elim
end Go.Proofs.Ytommekhmdmnjlaa
