
/- PackRec of the model; both in one form; the law FnExactPackRec. -/
import Derived.Test.YtommekhmdmnjlaaPackB
namespace Go.Proofs.Ytommekhmdmnjlaa
open Go.RowKit

/-- The bytes that PackRec hands back. -/
def Ch.Rec.res (r : Ch.Rec) : List Int := if r.fault = 0 then r.bytes else []

theorem implPackRec_any (kd tx ky : Int) (hd : Bool) (ol : Int) (hs : Bool) (nw : Int) (w : World) :
    Calls Try.prog 43 #[.agg #[.int .i64 kd, .int .i64 tx, .int .i64 ky, .bool hd, .int .i64 ol, .bool hs, .int .i64 nw]] w fun e w' => ∃ a' m c', e = .returned (.agg #[.int .i64 (Ch.Rec.fault ⟨kd, tx, ky, hd, ol, hs, nw⟩), .slice a' m c']) ∧ m ≤ 11 ∧ w'.ownsRow w.heap.size 5 1 (.slice a' m c') m (bts (Ch.Rec.res ⟨kd, tx, ky, hd, ol, hs, nw⟩)) ∧ Below w.heap.size w w' := by
  by_cases h0 : Ch.Rec.fault ⟨kd, tx, ky, hd, ol, hs, nw⟩ = 0
  · refine (implPackRec_ok kd tx ky hd ol hs nw w h0).mono ?_
    rintro e w' ⟨g, cp, rfl, own, b⟩
    refine ⟨_, _, _, by rw [h0], (Ch.Rec.len_bd _).2, ?_, b⟩
    unfold Ch.Rec.res
    rw [if_pos h0]
    exact own
  · refine (implPackRec_no kd tx ky hd ol hs nw w _ rfl (by simpa using h0)).mono ?_
    rintro e w' ⟨rfl, b⟩
    refine ⟨_, _, _, rfl, by omega, ?_, b⟩
    unfold Ch.Rec.res
    rw [if_neg h0]
    exact World.ownsRow_nil _ _ _ _

theorem box7 {w w1 : World} {t : TypeId} {c0 c1 c2 c3 c4 c5 c6 : Value} (b : Below (w.alloc (.cells #[c0, c1, c2, c3, c4, c5, c6] t)).heap.size (w.alloc (.cells #[c0, c1, c2, c3, c4, c5, c6] t)) w1) :
    w1.cell? ⟨w.heap.size, 0, none⟩ = some c0 ∧ w1.cell? ⟨w.heap.size, 1, none⟩ = some c1 ∧ w1.cell? ⟨w.heap.size, 2, none⟩ = some c2 ∧ w1.cell? ⟨w.heap.size, 3, none⟩ = some c3 ∧ w1.cell? ⟨w.heap.size, 4, none⟩ = some c4 ∧ w1.cell? ⟨w.heap.size, 5, none⟩ = some c5 ∧ w1.cell? ⟨w.heap.size, 6, none⟩ = some c6 :=
  ⟨box_cell b 0, box_cell b 1, box_cell b 2, box_cell b 3, box_cell b 4, box_cell b 5, box_cell b 6⟩

end Go.Proofs.Ytommekhmdmnjlaa
