/- What the law FnLogs leans on: crashes at every argument, bytes as strings. -/
import Derived.Test.YtommekhmdmnjlaaLogM
import Derived.Test.YtommekhmdmnjlaaLogC
import Derived.Test.YtommekhmdmnjlaaLogD
import Derived.Test.YtommekhmdmnjlaaWalE
namespace Go.Proofs.Ytommekhmdmnjlaa
open Go.RowKit

/-- Where a crash has a code the program and the model have the same. -/
theorem crash_code (ad ad' : Option Addr) (n m cap cap' : Nat) (kept : Int) (ss ls : List Int) (hb : IsB ss) (hb' : IsB ls) (hn : n ≤ 1048576) (hm : m ≤ 1048576) (hcap : n ≤ cap) (hcap' : m ≤ cap') (hbad : Ch.walFault ss ls ≠ 0 ∨ kept < 0 ∨ (m : Int) < kept) :
    ∃ c : Int, (c != 0) = true ∧ (∀ w, CellsAt w ad n (bts ss) → CellsAt w ad' m (bts ls) → Calls Try.prog 12 #[.agg #[.slice ad n cap, .slice ad' m cap'], .int .i64 kept] w fun e w' => e = .returned (.agg #[.int .i64 c, .int .i64 0, .slice none 0 0, .slice none 0 0]) ∧ Below w.heap.size w w') ∧
      (∀ w, CellsAt w ad n (bts ss) → CellsAt w ad' m (bts ls) → Calls Try.prog 13 #[.agg #[.slice ad n cap, .slice ad' m cap'], .int .i64 kept] w fun e w' => e = .returned (.agg #[.int .i64 c, .int .i64 0, .slice none 0 0, .slice none 0 0]) ∧ Below w.heap.size w w') := by
  by_cases h0 : Ch.walFault ss ls = 0
  · have hk : kept < 0 ∨ (m : Int) < kept := by
      rcases hbad with h | h
      · exact absurd h0 h
      · exact h
    exact ⟨3, rfl, fun w h h' => implCrash_rangeO ad ad' n m cap cap' kept ss ls w h h' hb hb' hn hm hcap hcap' h0 hk, fun w h h' => specCrash_rangeO ad ad' n m cap cap' kept ss ls w h h' hb hb' hn hm hcap hcap' h0 hk⟩
  · have hc : (Ch.walFault ss ls != 0) = true := by simpa using h0
    exact ⟨Ch.walFault ss ls, hc, fun w h h' => implCrash_noO ad ad' n m cap cap' kept ss ls w h h' hb hb' hn hm hcap hcap' _ rfl hc, fun w h h' => specCrash_noO ad ad' n m cap cap' kept ss ls w h h' hb hb' hn hm hcap hcap' _ rfl hc⟩

theorem conv_some {w : World} {g n : Nat} {zs : List Int} (h : CellsAt w (some ⟨g, 0, none⟩) n (bts zs)) (cap : Nat) :
    (convert 22 9 (.slice (some ⟨g, 0, none⟩) n cap)).run Try.prog w = .ok (.string (strOfNums zs)) w := by
  have hl := h.len.out
  refine run_convert_bytes_arg w 22 5 Try.underlying22 Try.underlying5 g 0 n cap zs hl.symm (fun i hi => ?_) 9 Try.underlying9
  obtain ⟨b, off, ha, hc⟩ := h.2 (by omega)
  simp only [Option.some.injEq, Addr.mk.injEq, and_true] at ha
  obtain ⟨rfl, rfl⟩ := ha
  rw [hc i hi]
  simp [bts, List.getD, show i < zs.length by omega]
theorem conv_nil (w : World) : (convert 22 9 (.slice none 0 0)).run Try.prog w = .ok (.string (strOfNums [])) w := by kernel_rfl
theorem conv_own {w : World} {B n cap : Nat} {a : Option Addr} {zs : List Int} (h : w.ownsRow B 5 1 (.slice a n cap) n (bts zs)) :
    (convert 22 9 (.slice a n cap)).run Try.prog w = .ok (.string (strOfNums zs)) w := by
  have hc := owns_bytes h
  rcases h.2 with ⟨hv, h0⟩ | ⟨g, cap', cur, hv, _⟩
  · simp only [Value.slice.injEq] at hv
    obtain ⟨rfl, _, rfl⟩ := hv
    subst h0
    have : zs = [] := by have := hc.len.out; exact List.length_eq_zero_iff.1 this.symm
    subst this
    exact conv_nil w
  · simp only [Value.slice.injEq] at hv
    obtain ⟨rfl, _, rfl⟩ := hv
    exact conv_some hc cap
theorem field_code (c p : Int) (s l : Value) (W : World) : (Instr.field 29 (.agg #[.int .i64 c, .int .i64 p, s, l]) 0).run Try.prog W = .ok (.int .i64 c) W := by kernel_rfl
end Go.Proofs.Ytommekhmdmnjlaa
