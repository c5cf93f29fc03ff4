
/- AppendWal: of the program and of the model, at every argument. -/
import Derived.Test.YtommekhmdmnjlaaAppO
import Derived.Test.YtommekhmdmnjlaaAppT
namespace Go.Proofs.Ytommekhmdmnjlaa
open Go.RowKit

/-- What AppendWal answers: the code, the count, the sure bytes, the loose ones. -/
def Ch.appR (ss ls : List Int) (r : Ch.Rec) : Int × Int × List Int × List Int :=
  if ¬ Ch.walFault ss ls = 0 then (Ch.walFault ss ls, 0, [], []) else if ¬ r.fault = 0 then (r.fault, 0, [], []) else
  if 4000 < ss.length + ls.length + r.len then (2, 0, [], []) else (0, (Ch.reads ss).length + (Ch.reads (ls ++ r.bytes)).length, ss, ls ++ r.bytes)

theorem below_two {w w1 : World} {o o' : Obj} (b : Below ((w.alloc o).alloc o').heap.size ((w.alloc o).alloc o') w1) : Below w.heap.size w w1 := below_boxS (below_boxT (below_box2 b))

theorem implApp_any (ad ad' : Addr) (n m cap cap' : Nat) (ss ls : List Int) (kd tx ky : Int) (hd : Bool) (ol : Int) (hs : Bool) (nw : Int) (w : World) (h : CellsAt w (some ad) n (bts ss)) (h' : CellsAt w (some ad') m (bts ls)) (hb : IsB ss) (hb' : IsB ls) (hn : n ≤ 1048576) (hm : m ≤ 1048576) (hcap : n ≤ cap) (hcap' : m ≤ cap') :
    Calls Try.prog 16 #[.agg #[.slice (some ad) n cap, .slice (some ad') m cap'], .agg #[.int .i64 kd, .int .i64 tx, .int .i64 ky, .bool hd, .int .i64 ol, .bool hs, .int .i64 nw]] w fun e w' => ∃ a1 k c1 a2 k' c2, e = .returned (.agg #[.int .i64 (Ch.appR ss ls ⟨kd, tx, ky, hd, ol, hs, nw⟩).1, .int .i64 (Ch.appR ss ls ⟨kd, tx, ky, hd, ol, hs, nw⟩).2.1, .slice a1 k c1, .slice a2 k' c2]) ∧ k ≤ 4000 ∧ k' ≤ 4000 ∧ w'.ownsRow w.heap.size 5 1 (.slice a1 k c1) k (bts (Ch.appR ss ls ⟨kd, tx, ky, hd, ol, hs, nw⟩).2.2.1) ∧ w'.ownsRow w.heap.size 5 1 (.slice a2 k' c2) k' (bts (Ch.appR ss ls ⟨kd, tx, ky, hd, ol, hs, nw⟩).2.2.2) ∧ (∀ g, (Value.slice a1 k c1).ownBlock = some g → (Value.slice a2 k' c2).ownBlock ≠ some g) ∧ Below w.heap.size w w' := by
  have e1 := h.len.out
  have e2 := h'.len.out
  have e3 := (Ch.Rec.len_bd ⟨kd, tx, ky, hd, ol, hs, nw⟩).2
  by_cases h0 : Ch.walFault ss ls = 0
  · by_cases h1 : Ch.Rec.fault ⟨kd, tx, ky, hd, ol, hs, nw⟩ = 0
    · by_cases hl : 4000 < n + m + Ch.Rec.len ⟨kd, tx, ky, hd, ol, hs, nw⟩
      · have e : (Ch.appR ss ls ⟨kd, tx, ky, hd, ol, hs, nw⟩) = (2, 0, [], []) := by unfold Ch.appR; rw [if_neg (by omega), if_neg (by omega), if_pos (by omega)]
        rw [e]
        refine (implApp_big ad ad' n m cap cap' ss ls kd tx ky hd ol hs nw w h h' hb hb' hn hm hcap hcap' h0 h1 hl e3).mono ?_
        rintro e w' ⟨rfl, b⟩
        exact ⟨none, 0, 0, none, 0, 0, rfl, by omega, by omega, World.ownsRow_nil _ _ _ _, World.ownsRow_nil _ _ _ _, fun g hg => by simp [Value.ownBlock] at hg, b⟩
      · have e : (Ch.appR ss ls ⟨kd, tx, ky, hd, ol, hs, nw⟩) = ((0 : Int), ((Ch.reads ss).length : Int) + ((Ch.reads (ls ++ Ch.Rec.bytes ⟨kd, tx, ky, hd, ol, hs, nw⟩)).length : Int), ss, ls ++ Ch.Rec.bytes ⟨kd, tx, ky, hd, ol, hs, nw⟩) := by unfold Ch.appR; rw [if_neg (by omega), if_neg (by omega), if_neg (by omega)]
        rw [e]
        refine (implApp_ok ad ad' n m cap cap' ss ls kd tx ky hd ol hs nw w h h' hb hb' hn hm hcap hcap' h0 h1 (by omega)).mono ?_
        rintro e w' ⟨a1, c1, a2, c2, rfl, o, o', hx, b⟩
        exact ⟨a1, n, c1, a2, _, c2, rfl, by omega, by omega, o, o', hx, b⟩
    · have e : (Ch.appR ss ls ⟨kd, tx, ky, hd, ol, hs, nw⟩) = (Ch.Rec.fault ⟨kd, tx, ky, hd, ol, hs, nw⟩, 0, [], []) := by unfold Ch.appR; rw [if_neg (by omega), if_pos h1]
      rw [e]
      refine (implApp_bad ad ad' n m cap cap' ss ls kd tx ky hd ol hs nw w h h' hb hb' hn hm hcap hcap' h0 _ rfl (by simpa using h1)).mono ?_
      rintro e w' ⟨rfl, b⟩
      exact ⟨none, 0, 0, none, 0, 0, rfl, by omega, by omega, World.ownsRow_nil _ _ _ _, World.ownsRow_nil _ _ _ _, fun g hg => by simp [Value.ownBlock] at hg, b⟩
  · have e : (Ch.appR ss ls ⟨kd, tx, ky, hd, ol, hs, nw⟩) = (Ch.walFault ss ls, 0, [], []) := by unfold Ch.appR; rw [if_pos h0]
    rw [e]
    refine (implApp_no ad ad' n m cap cap' ss ls kd tx ky hd ol hs nw w h h' hb hb' hn hm hcap hcap' _ rfl (by simpa using h0)).mono ?_
    rintro e w' ⟨rfl, b⟩
    exact ⟨none, 0, 0, none, 0, 0, rfl, by omega, by omega, World.ownsRow_nil _ _ _ _, World.ownsRow_nil _ _ _ _, fun g hg => by simp [Value.ownBlock] at hg, b⟩

end Go.Proofs.Ytommekhmdmnjlaa
