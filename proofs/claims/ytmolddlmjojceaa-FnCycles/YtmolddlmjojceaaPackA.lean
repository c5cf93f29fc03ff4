
/- Walks of a record's bytes: the model's. -/
import Derived.Test.YtmolddlmjojceaaRecL
import Derived.Deep.DeepCutAuto
namespace Go.Proofs.Ytmolddlmjojceaa
open Go.RowKit

theorem hTake {P : Program} {l : List Oper} {Q : Exit → Act → World → Prop} {md : Region.Mode} {S : World → Prop} {i : Nat} {oi : Oper} {v : Value} {fuel : Nat} {listed : Array Bool} {a : Act} {w : World} (hi : l[i]? = some oi)
    (hs : Region.noSelect l.toArray = true) (hf : Region.free md l.toArray listed i = true) (hr : (Region.ready md l.toArray listed).contains i = true)
    (hw : Region.wanted oi (yielded l.toArray a.tmps) = true) (hy : ∀ W, S W → (execOp a.eval oi).run P W = .ok (.value v) W) (hS : S w)
    (h : wpAnyH P md l.toArray (NoPanic Q) S fuel (listed.setIfInBounds i true) (a.put oi.dst v) w) : wpAnyH P md l.toArray (NoPanic Q) S (fuel + 1) listed a w :=
  wpAnyH_take (by simpa using hi) hs hf hr (fun _ _ _ h => h) (Or.inl ⟨hw, hy⟩) hS h
theorem hSkip {P : Program} {l : List Oper} {Q : Exit → Act → World → Prop} {md : Region.Mode} {S : World → Prop} {i : Nat} {oi : Oper} {fuel : Nat} {listed : Array Bool} {a : Act} {w : World} (hi : l[i]? = some oi)
    (hs : Region.noSelect l.toArray = true) (hf : Region.free md l.toArray listed i = true) (hr : (Region.ready md l.toArray listed).contains i = true)
    (hw : Region.wanted oi (yielded l.toArray a.tmps) = false) (hS : S w)
    (h : wpAnyH P md l.toArray (NoPanic Q) S fuel (listed.setIfInBounds i true) (a.put oi.dst undef) w) : wpAnyH P md l.toArray (NoPanic Q) S (fuel + 1) listed a w :=
  wpAnyH_take (by simpa using hi) hs hf hr (fun _ _ _ h => h) (Or.inr ⟨hw, rfl⟩) hS h

/-- An append inside a region: what it is appended to is found behind. -/
theorem step_appE {ops : Array Oper} {o : Oper} {a : Act} {w : World} {K : Act → World → Prop} {Q : Exit → Act → World → Prop} {E : Prop} (s x : Operand)
    (B n : Nat) (xs : List Value) (m : Nat) (cs : Array Value) (hm : 0 < m ∧ cs.size = m ∧ n + m ≤ 1099511627776)
    (ho : o.op = .call { callee := .builtin .append, args := #[s, x], argTypes := #[22, 22] }) (hgd : o.guard = none)
    (hs : ∃ g cp, a.eval s = .slice (some ⟨g, 0, none⟩) n cp ∧ w.ownsRow B 5 1 (.slice (some ⟨g, 0, none⟩) n cp) n xs)
    (hx : ∃ h c t, a.eval x = .slice (some ⟨h, 0, none⟩) m c ∧ w.heap[h]? = some (.cells cs t (0, 0)))
    (h1 : ∀ u ∈ cs.toList, u.oneCell' = true) (hbase : B ≤ w.heap.size)
    (hK : ∀ g' cp' w', w'.ownsRow B 5 1 (.slice (some ⟨g', 0, none⟩) (n + m) cp') (n + m) (xs ++ cs.toList) → Below B w w' → K (a.put o.dst (.slice (some ⟨g', 0, none⟩) (n + m) cp')) w') :
    if Region.wanted o (yielded ops a.tmps) = true then Oper.wp Try.prog o a w K Q else E := by
  obtain ⟨g, cp, hs, hown⟩ := hs
  exact step_app s x B g n cp xs m cs ⟨hm.1, hm.2.1, hm.2.2, (owns_bounds hown).1⟩ ho hgd hs hx hown h1 hbase (fun g' cp' w' ho hg => hK g' cp' w' ho hg.below)

theorem wpList_appE {ops : Array Oper} {rest : List Oper} {o : Oper} {a : Act} {w : World} {Q : Exit → Act → World → Prop} (s x : Operand)
    (B n : Nat) (xs : List Value) (m : Nat) (cs : Array Value) (hm : 0 < m ∧ cs.size = m ∧ n + m ≤ 1099511627776)
    (ho : o.op = .call { callee := .builtin .append, args := #[s, x], argTypes := #[22, 22] }) (hgd : o.guard = none)
    (hs : ∃ g cp, a.eval s = .slice (some ⟨g, 0, none⟩) n cp ∧ w.ownsRow B 5 1 (.slice (some ⟨g, 0, none⟩) n cp) n xs)
    (hx : ∃ h c t, a.eval x = .slice (some ⟨h, 0, none⟩) m c ∧ w.heap[h]? = some (.cells cs t (0, 0)))
    (h1 : ∀ u ∈ cs.toList, u.oneCell' = true) (hbase : B ≤ w.heap.size)
    (hK : ∀ g' cp' w', w'.ownsRow B 5 1 (.slice (some ⟨g', 0, none⟩) (n + m) cp') (n + m) (xs ++ cs.toList) → Below B w w' → wpList Try.prog ops Q rest (a.put o.dst (.slice (some ⟨g', 0, none⟩) (n + m) cp')) w') :
    wpList Try.prog ops Q (o :: rest) a w := by
  obtain ⟨g, cp, hs, hown⟩ := hs
  exact wpList_app s x B g n cp xs m cs ⟨hm.1, hm.2.1, hm.2.2, (owns_bounds hown).1⟩ ho hgd hs hx hown h1 hbase (fun g' cp' w' ho hg => hK g' cp' w' ho hg.below)

theorem lit_own {w : World} {B g : Nat} (xs : Array Value) (n : Nat) (hn : xs.size = n) (hB : B ≤ w.heap.size) (h1 : n ≤ 1000) (hg : g = w.heap.size) : (w.alloc (.cells xs 5)).ownsRow B 5 1 (.slice (some ⟨g, 0, none⟩) n n) n xs.toList := by
  subst hn hg
  exact World.ownsRow_lit w xs xs.size hB (by unfold maxLen; omega) (Nat.mul_one _).symm

theorem below_boxS {w w1 : World} {o : Obj} (b1 : Below (w.heap.size + 1) (w.alloc o) w1) : Below w.heap.size w w1 :=
  below_box (by simpa using b1)

theorem box_at {w w1 : World} {cs : Array Value} {t : TypeId} (b1 : Below (w.heap.size + 1) (w.alloc (.cells cs t)) w1) (i : Nat) : w1.cell? ⟨w.heap.size, i, none⟩ = cs[i]? :=
  box_cell (by simpa using b1) i

end Go.Proofs.Ytmolddlmjojceaa
