
/- Leaves and a row drawn. -/
import Derived.Test.YthfanfnbjldddaaDrawX
import Derived.Lib.AppendZeros
namespace Go.Proofs.Ythfanfnbjldddaa
open Go.RowKit

theorem Try.info5y : (Try.prog.info? 5).map (fun i => (i.zero, i.size, i.bytes)) = some (some (.int .u8 0), 1, 1) := by kernel_rfl
theorem wpList_appVy {ops : Array Oper} {rest : List Oper} {o : Oper} {a : Act} {w : World} {Q : Exit → Act → World → Prop} (s x : Operand)
    (B : Nat) (v : Value) (n : Nat) (xs : List Value) (m : Nat) (zs : List Int) (hm : n + m ≤ 1099511627776)
    (ho : o.op = .call { callee := .builtin .append, args := #[s, x], argTypes := #[22, 22] }) (hgd : o.guard = none)
    (hs : a.eval s = v) (hx : ∃ ad c, a.eval x = .slice (some ad) m c ∧ CellsAt w (some ad) m (bts zs))
    (hown : w.ownsRow B 5 1 v n xs) (hbase : B ≤ w.heap.size)
    (hK : ∀ a' c' w', w'.ownsRow B 5 1 (.slice a' (n + m) c') (n + m) (xs ++ bts zs) → Below B w w' → wpList Try.prog ops Q rest (a.put o.dst (.slice a' (n + m) c')) w') :
    wpList Try.prog ops Q (o :: rest) a w := by
  obtain ⟨ad, c, hx, hc⟩ := hx
  obtain ⟨i0, hi, hz0, hz1, hz2⟩ := info_parts Try.info5y
  have hl := hc.len.out
  refine wpList_append_own w hgd s x 22 ho B 5 i0 _ 1 1 Try.underlying22 hi hz0 hz1 hz2 rfl (by omega) v n xs hs hown ad m c (bts zs) hx (by simp [bts]; omega) ?_ ?_ (by unfold maxLen; omega) (by omega) hbase ?_
  · intro j u hj
    have hjl : j < (bts zs).length := (List.getElem?_eq_some_iff.1 hj).1
    simp [bts] at hjl
    obtain ⟨b, off, ha, hcc⟩ := hc.2 (by omega)
    simp only [Option.some.injEq] at ha
    subst ha
    have e : (⟨b, off, none⟩ : Addr).add j = ⟨b, off + j, none⟩ := by
      unfold Addr.add
      split
      · next h0 => subst h0; rfl
      · rfl
    rw [e, hcc j (by omega), hj]
  · intro u hu
    obtain ⟨z, _, rfl⟩ := List.mem_map.1 hu
    rfl
  · intro v' w' hown' hgrow _
    obtain ⟨a', c', rfl⟩ := owns_shape hown'
    refine hK a' c' w' hown' ((Below.refl _ _).grown hgrow hbase (fun k hk => ?_))
    rcases hown.2 with ⟨hv, _⟩ | ⟨g, cap', cur, hv, hb, _⟩
    · subst hv; simp [Value.ownBlock] at hk
    · subst hv; simp [Value.ownBlock] at hk; omega

theorem owns_capRy {w : World} {base : Nat} {e : TypeId} {size : Nat} {a : Option Addr} {n cap : Nat} {xs : List Value} (h : w.ownsRow base e size (.slice a n cap) n xs) : n ≤ cap := by
  rcases h.2 with ⟨hv, h0⟩ | ⟨g, cap', cur, hv, _, _, h1, _⟩
  · omega
  · simp only [Value.slice.injEq] at hv
    omega

theorem app_nily (g n cp c ty : Nat) (w : World) (h : n ≤ cp) : (Builtin.append_ #[22, 22] ty #[.slice (some ⟨g, 0, none⟩) n cp, .slice none 0 c]).run Try.prog w = .ok (.slice (some ⟨g, 0, none⟩) n cp) w := by
  obtain ⟨i0, hi, hz0, hz1, hz2⟩ := info_parts Try.info5y
  simp [Builtin.append_, run_underlying Try.underlying22, sizeOf, typeInfo, hi, Builtin.lenOf, Builtin.firstCells, h, storeCells]

/-- Bytes that came in, appended to bytes of one's own. -/
theorem wpList_appOy {ops : Array Oper} {rest : List Oper} {o : Oper} {a : Act} {w : World} {Q : Exit → Act → World → Prop} (s x : Operand)
    (B g n cp : Nat) (xs : List Value) (A : Option Addr) (m c : Nat) (zs : List Int) (hm : n + m ≤ 1099511627776)
    (ho : o.op = .call { callee := .builtin .append, args := #[s, x], argTypes := #[22, 22] }) (hgd : o.guard = none)
    (hs : a.eval s = .slice (some ⟨g, 0, none⟩) n cp) (hx : a.eval x = .slice A m c) (hc : CellsAt w A m (bts zs))
    (hown : w.ownsRow B 5 1 (.slice (some ⟨g, 0, none⟩) n cp) n xs) (hbase : B ≤ w.heap.size)
    (hK : ∀ a' c' w', w'.ownsRow B 5 1 (.slice a' (n + m) c') (n + m) (xs ++ bts zs) → Below B w w' → wpList Try.prog ops Q rest (a.put o.dst (.slice a' (n + m) c')) w') :
    wpList Try.prog ops Q (o :: rest) a w := by
  cases A with
  | some ad => exact wpList_appVy s x B _ n xs m zs hm ho hgd hs ⟨ad, c, hx, hc⟩ hown hbase hK
  | none =>
    have hm0 : m = 0 := by
      rcases Nat.eq_zero_or_pos m with h | h
      · exact h
      · obtain ⟨b, off, hb, _⟩ := hc.2 h; cases hb
    subst hm0
    have hz : zs = [] := by have := hc.len.out; exact List.length_eq_zero_iff.1 this.symm
    subst hz
    have hcap : n ≤ cp := owns_capRy hown
    have hr := app_nily g n cp c o.type w hcap
    refine Lib.wpList_append_run w hgd s x 22 22 ho _ _ hs hx _ _ hr ?_
    have := hK (some ⟨g, 0, none⟩) cp w (by simpa [bts] using hown) (Below.refl _ _)
    simpa using this

theorem OwnLv.drw {w : World} {B n : Nat} {v : Value} {ls : List (List Ch.Row)} (h : OwnLv w B v n ls) : OwnLv w.drew B v n ls := h
end Go.Proofs.Ythfanfnbjldddaa
