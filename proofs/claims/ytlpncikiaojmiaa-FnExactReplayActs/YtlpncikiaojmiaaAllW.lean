
/- All rows of leaves: the model's and the program's walks. -/
import Derived.Test.YtlpncikiaojmiaaForW
namespace Go.Proofs.Ytlpncikiaojmiaa
open Go.RowKit

theorem rcells_append (a b : List Ch.Row) : rcells (a ++ b) = rcells a ++ rcells b := by simp [rcells]
theorem rcells_one (rs : List Ch.Row) : ∀ u ∈ rcells rs, u.oneCell' = true := by
  intro u hu
  simp only [rcells, List.mem_flatMap, List.mem_cons, List.not_mem_nil, or_false] at hu
  obtain ⟨r, _, rfl | rfl | rfl⟩ := hu <;> rfl

/-- Rows appended to rows of one's own. -/
theorem wpList_appRs {ops : Array Oper} {rest : List Oper} {o : Oper} {a : Act} {w : World} {Q : Exit → Act → World → Prop} (s x : Operand)
    (B : Nat) (v : Value) (n : Nat) (rs : List Ch.Row) (m : Nat) (zs : List Ch.Row) (hm : n + m ≤ 2097152)
    (ho : o.op = .call { callee := .builtin .append, args := #[s, x], argTypes := #[27, 27] }) (hgd : o.guard = none)
    (hs : a.eval s = v) (hx : ∃ ad c, a.eval x = .slice (some ad) m c ∧ CellsAt w (some ad) (m * 3) (rcells zs))
    (hown : w.ownsRow B 64 3 v n (rcells rs)) (hbase : B ≤ w.heap.size)
    (hK : ∀ a' c' w', w'.ownsRow B 64 3 (.slice a' (n + m) c') (n + m) (rcells (rs ++ zs)) → Below B w w' → wpList Try.prog ops Q rest (a.put o.dst (.slice a' (n + m) c')) w') :
    wpList Try.prog ops Q (o :: rest) a w := by
  obtain ⟨ad, c, hx, hc⟩ := hx
  obtain ⟨i0, hi, hz0, hz1, hz2⟩ := info_parts Try.info64
  refine wpList_append_own w hgd s x 27 ho B 64 i0 _ 3 24 Try.underlying27 hi hz0 hz1 hz2 rfl (by omega) v n (rcells rs) hs hown ad m c (rcells zs) hx hc.1 ?_ (rcells_one zs) (by unfold maxLen; omega) (by omega) hbase ?_
  · intro j u hj
    have hjl : j < (rcells zs).length := (List.getElem?_eq_some_iff.1 hj).1
    have hl := hc.1
    obtain ⟨b, off, ha, hcc⟩ := hc.2 (by omega)
    simp only [Option.some.injEq] at ha
    subst ha
    have e : (⟨b, off, none⟩ : Addr).add j = ⟨b, off + j, none⟩ := by
      unfold Addr.add
      split
      · next h0 => subst h0; rfl
      · rfl
    rw [e, hcc j (by omega), hj]
  · intro v' w' hown' hgrow _
    rw [← rcells_append] at hown'
    obtain ⟨a', c', rfl⟩ := owns_shape hown'
    refine hK a' c' w' hown' ((Below.refl _ _).grown hgrow hbase (fun k hk => ?_))
    rcases hown.2 with ⟨hv, _⟩ | ⟨g, cap', cur, hv, hb, _⟩
    · subst hv; simp [Value.ownBlock] at hk
    · subst hv; simp [Value.ownBlock] at hk; omega

theorem empty_rows (w : World) (B : Nat) (hB : B ≤ w.heap.size) : (w.alloc (.cells #[] 64)).ownsRow B 64 3 (.slice (some ⟨w.heap.size, 0, none⟩) 0 0) 0 (rcells []) :=
  World.ownsRow_lit w #[] 0 hB (by unfold maxLen; omega) rfl

theorem Ch.flat_take (ls : List (List Ch.Row)) (k : Nat) (h : k < ls.length) : (ls.take (k + 1)).flatten = (ls.take k).flatten ++ ls.getD k [] := by
  rw [Ch.take_snoc ls [] k h]; simp
theorem Ch.flat_len (ls : List (List Ch.Row)) : ls.flatten.length = (ls.map List.length).sum := by simp [List.length_flatten]
theorem Ch.flat_small {ls : List (List Ch.Row)} (hs : Ch.lvSize ls ≤ 1048576) (k : Nat) : (ls.take k).flatten.length ≤ 1048576 := by
  have := Ch.lv_le ls k
  rw [Ch.flat_len]
  unfold Ch.lvSize at hs
  omega

end Go.Proofs.Ytlpncikiaojmiaa
