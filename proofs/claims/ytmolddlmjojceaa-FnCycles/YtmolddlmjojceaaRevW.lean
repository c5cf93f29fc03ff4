
/- slices.Reverse of numbers at a list of one's own. -/
import Derived.Test.YtmolddlmjojceaaProg
import Derived.Test.YtmolddlmjojceaaBase
import Derived.Test.YtmolddlmjojceaaLkN
import Derived.Shelf.SlicesE.Reverse
import Derived.Shelf.Lay
import Derived.Ground.SlgnProg
namespace Go.Proofs.Ytmolddlmjojceaa
open Go.Shelf Go.RowKit Go.Lib Go.Sort

shelf_lay_g SlLaysE.n35 Slgn 35 at Try 29 as Try.reverseI

theorem oneI : OneCell (Value.int .i64) := fun _ => rfl
theorem take_putCellsI (cur : Array Value) (zs : List Int) (h : zs.length ≤ cur.size) : (putCells (Value.int .i64) 0 zs.toArray cur).toList.take zs.length = icells zs := by
  apply List.ext_getElem?
  intro j
  by_cases hj : j < zs.length
  · rw [List.getElem?_take_of_lt hj, Array.getElem?_toList]
    simp [putCells, icells, hj, show j < cur.size by omega]
  · rw [List.getElem?_take_eq_none (by omega), List.getElem?_eq_none (by simp [icells]; omega)]
theorem holdsI {w : World} {g : Nat} {cur : Array Value} {e : TypeId} {zs : List Int} (hb : w.heap[g]? = some (.cells cur e (0, 0))) (ht : cur.toList.take zs.length = icells zs) : Holds (Value.int .i64) w g 0 zs.toArray := by
  intro j hj
  have hj : j < zs.length := by simpa using hj
  refine ⟨?_, by simp [World.frozen?, hb]⟩
  have h1 : (cur.toList.take zs.length)[j]? = (icells zs)[j]? := by rw [ht]
  rw [List.getElem?_take_of_lt hj] at h1
  simp only [World.cell?, hb, Nat.zero_add]
  simp only [Option.isSome_none, Bool.false_eq_true, if_false]
  rw [← Array.getElem?_toList, h1]
  simp [icells, hj]

set_option maxRecDepth 100000 in
theorem rev_any (B g n cap : Nat) (xs : List Int) (w : World) (own : w.ownsRow B 2 1 (.slice (some ⟨g, 0, none⟩) n cap) n (icells xs)) (hn : n ≤ 1048576) (hB : B ≤ w.heap.size) :
    Calls Try.prog 29 #[.slice (some ⟨g, 0, none⟩) n cap] w fun e w' => e = .returned (.tuple #[]) ∧ w'.ownsRow B 2 1 (.slice (some ⟨g, 0, none⟩) n cap) n (icells xs.reverse) ∧ Below B w w' := by
  have hl : xs.length = n := by
    have := own.1
    rw [icells_len] at this
    omega
  subst hl
  rcases own.2 with ⟨hnil, _⟩ | ⟨g', cap', cur, hv, hbase, hb, h1, h2, h3, h4⟩
  · cases hnil
  cases hv
  have h4' : cur.toList.take xs.length = icells xs := by simpa using h4
  have hH := holdsI hb h4'
  have hcon := AnyE.slices_Reverse Try.reverseI (Value.int .i64) oneI g 0 cap xs w hH (by omega)
  refine Calls.mono hcon ?_
  rintro e w' ⟨rfl, nn, rfl⟩
  have hgr : w.grownBy (putRow (Value.int .i64) (Sort.ahead w nn) g 0 xs.reverse.toArray) (some g) := by
    refine ⟨rfl, rfl, rfl, by simp [putRow, mapBlock, Sort.ahead], fun k hk hne => ?_⟩
    have : g ≠ k := fun e => hne (by rw [e])
    simp [putRow, mapBlock, Sort.ahead, Array.getElem?_modify, this]
  have hcs : xs.length ≤ cur.size := by
    have := congrArg List.length h4'
    rw [icells_len, List.length_take, Array.length_toList] at this
    omega
  refine ⟨rfl, ⟨by rw [icells_len]; simp, .inr ⟨g, cap, putCells (Value.int .i64) 0 xs.reverse.toArray cur, rfl, hbase, ?_, h1, h2, ?_, ?_⟩⟩, (Below.refl _ _).grown hgr hB (fun k hk => by cases hk; exact hbase)⟩
  · simp [putRow, mapBlock, Sort.ahead, Array.getElem?_modify, hb, onCells]
  · simp [putCells, h3]
  · have := take_putCellsI cur xs.reverse (by simpa using hcs)
    simpa using this
end Go.Proofs.Ytmolddlmjojceaa
