
/- What the law FnRecs leans on: a record drawn, a cut, appends, records compared. -/
import Derived.Test.YtommekhmdmnjlaaDrawR
import Derived.Test.YtommekhmdmnjlaaRecsM
import Derived.Test.YtommekhmdmnjlaaPackL
import Derived.Test.YtommekhmdmnjlaaRecS
import Derived.Test.YtommekhmdmnjlaaCloneW
import Derived.Laws.StructEq
namespace Go.Proofs.Ytommekhmdmnjlaa
open Go.RowKit

def Ag (r : Ch.Rec) : Value := .agg #[.int .i64 r.kd, .int .i64 r.tx, .int .i64 r.ky, .bool r.hd, .int .i64 r.ol, .bool r.hs, .int .i64 r.nw]

theorem owns_capR {w : World} {base : Nat} {e : TypeId} {size : Nat} {a : Option Addr} {n cap : Nat} {xs : List Value} (h : w.ownsRow base e size (.slice a n cap) n xs) : n ≤ cap := by
  rcases h.2 with ⟨hv, h0⟩ | ⟨g, cap', cur, hv, _, _, h1, _⟩
  · omega
  · simp only [Value.slice.injEq] at hv
    omega

theorem app_nil (g n cp c ty : Nat) (w : World) (h : n ≤ cp) : (Builtin.append_ #[22, 22] ty #[.slice (some ⟨g, 0, none⟩) n cp, .slice none 0 c]).run Try.prog w = .ok (.slice (some ⟨g, 0, none⟩) n cp) w := by
  obtain ⟨i0, hi, hz0, hz1, hz2⟩ := info_parts Try.info5
  simp [Builtin.append_, run_underlying Try.underlying22, sizeOf, typeInfo, hi, Builtin.lenOf, Builtin.firstCells, h, storeCells]

/-- Bytes that came in, appended to bytes of one's own. -/
theorem wpList_appO {ops : Array Oper} {rest : List Oper} {o : Oper} {a : Act} {w : World} {Q : Exit → Act → World → Prop} (s x : Operand)
    (B g n cp : Nat) (xs : List Value) (A : Option Addr) (m c : Nat) (zs : List Int) (hm : n + m ≤ 1099511627776)
    (ho : o.op = .call { callee := .builtin .append, args := #[s, x], argTypes := #[22, 22] }) (hgd : o.guard = none)
    (hs : a.eval s = .slice (some ⟨g, 0, none⟩) n cp) (hx : a.eval x = .slice A m c) (hc : CellsAt w A m (bts zs))
    (hown : w.ownsRow B 5 1 (.slice (some ⟨g, 0, none⟩) n cp) n xs) (hbase : B ≤ w.heap.size)
    (hK : ∀ a' c' w', w'.ownsRow B 5 1 (.slice a' (n + m) c') (n + m) (xs ++ bts zs) → Below B w w' → wpList Try.prog ops Q rest (a.put o.dst (.slice a' (n + m) c')) w') :
    wpList Try.prog ops Q (o :: rest) a w := by
  cases A with
  | some ad => exact wpList_appV s x B _ n xs m zs hm ho hgd hs ⟨ad, c, hx, hc⟩ hown hbase hK
  | none =>
    have hm0 : m = 0 := by
      rcases Nat.eq_zero_or_pos m with h | h
      · exact h
      · obtain ⟨b, off, hb, _⟩ := hc.2 h; cases hb
    subst hm0
    have hz : zs = [] := by have := hc.len.out; exact List.length_eq_zero_iff.1 this.symm
    subst hz
    have hcap : n ≤ cp := owns_capR hown
    have hr := app_nil g n cp c o.type w hcap
    refine Lib.wpList_append_run w hgd s x 22 22 ho _ _ hs hx _ _ hr ?_
    have := hK (some ⟨g, 0, none⟩) cp w (by simpa [bts] using hown) (Below.refl _ _)
    simpa using this

/-- Bytes of one's own appended to bytes of one's own: where they lie. -/
theorem wpList_appB {ops : Array Oper} {rest : List Oper} {o : Oper} {a : Act} {w : World} {Q : Exit → Act → World → Prop} (s x : Operand)
    (B g n cp : Nat) (xs : List Value) (ad : Addr) (m c : Nat) (zs : List Int) (hm : n + m ≤ 1099511627776) (hm0 : 0 < m)
    (ho : o.op = .call { callee := .builtin .append, args := #[s, x], argTypes := #[22, 22] }) (hgd : o.guard = none)
    (hs : a.eval s = .slice (some ⟨g, 0, none⟩) n cp) (hx : a.eval x = .slice (some ad) m c) (hc : CellsAt w (some ad) m (bts zs))
    (hown : w.ownsRow B 5 1 (.slice (some ⟨g, 0, none⟩) n cp) n xs) (hbase : B ≤ w.heap.size)
    (hK : ∀ g' c' w', w'.ownsRow B 5 1 (.slice (some ⟨g', 0, none⟩) (n + m) c') (n + m) (xs ++ bts zs) → w.grownBy w' (some g) → (g' = g ∨ g' = w.heap.size) → wpList Try.prog ops Q rest (a.put o.dst (.slice (some ⟨g', 0, none⟩) (n + m) c')) w') :
    wpList Try.prog ops Q (o :: rest) a w := by
  obtain ⟨i0, hi, hz0, hz1, hz2⟩ := info_parts Try.info5
  have hl := hc.len.out
  refine wpList_append_lies w hgd s x 22 ho B 5 i0 _ 1 1 Try.underlying22 hi hz0 hz1 hz2 rfl (by omega) _ n xs hs hown ad m c (bts zs) hx (by simp [bts]; omega) ?_ ?_ hm0 (by unfold maxLen; omega) (by omega) hbase _ rfl ?_
  · intro j u hj
    have hjl : j < (bts zs).length := (List.getElem?_eq_some_iff.1 hj).1
    simp [bts] at hjl
    obtain ⟨b, off, ha, hcc⟩ := hc.2 (by omega)
    simp only [Option.some.injEq] at ha
    subst ha
    have e : (⟨b, off, none⟩ : Addr).add j = ⟨b, off + j, none⟩ := by
      unfold Addr.add
      split
      · next h0 => subst h0; rfl
      · rfl
    rw [e, hcc j (by omega), hj]
  · intro u hu
    obtain ⟨z, _, rfl⟩ := List.mem_map.1 hu
    rfl
  · intro g' cp' w' hown' hgrow hat hlt
    refine hK g' cp' w' hown' hgrow ?_
    rcases hat with hat | hat
    · simp [Value.ownBlock] at hat; exact .inl hat.symm
    · exact .inr hat

/-- A record appended to records of one's own. -/
theorem wpList_appC {ops : Array Oper} {rest : List Oper} {o : Oper} {a : Act} {w : World} {Q : Exit → Act → World → Prop} (s x : Operand)
    (B g n cp : Nat) (rs : List Ch.Rec) (r : Ch.Rec) (hn : n ≤ 1048576)
    (ho : o.op = .call { callee := .builtin .append, args := #[s, x], argTypes := #[31, 31] }) (hgd : o.guard = none)
    (hs : a.eval s = .slice (some ⟨g, 0, none⟩) n cp) (hx : ∃ h c t, a.eval x = .slice (some ⟨h, 0, none⟩) 1 c ∧ w.heap[h]? = some (.cells (c7 r).toArray t (0, 0)))
    (hown : w.ownsRow B 38 7 (.slice (some ⟨g, 0, none⟩) n cp) n (rc7 rs)) (hbase : B ≤ w.heap.size)
    (hK : ∀ g' c' w', w'.ownsRow B 38 7 (.slice (some ⟨g', 0, none⟩) (n + 1) c') (n + 1) (rc7 (rs ++ [r])) → w.grownBy w' (some g) → (g' = g ∨ g' = w.heap.size) → wpList Try.prog ops Q rest (a.put o.dst (.slice (some ⟨g', 0, none⟩) (n + 1) c')) w') :
    wpList Try.prog ops Q (o :: rest) a w := by
  obtain ⟨h, c, t, hx, hblk⟩ := hx
  obtain ⟨i0, hi, hz0, hz1, hz2⟩ := info_parts Try.info38
  refine wpList_append_lies w hgd s x 31 ho B 38 i0 _ 7 56 Try.underlying31 hi hz0 hz1 hz2 rfl (by omega) _ n (rc7 rs) hs hown ⟨h, 0, none⟩ 1 c (c7 r) hx rfl (World.news_of_block hblk) (by simp [c7, Value.oneCell']) (by omega) (by unfold maxLen; omega) (by omega) hbase _ rfl ?_
  intro g' cp' w' hown' hgrow hat hlt
  rw [← rc7_snoc] at hown'
  refine hK g' cp' w' hown' hgrow ?_
  rcases hat with hat | hat
  · simp [Value.ownBlock] at hat; exact .inl hat.symm
  · exact .inr hat

end Go.Proofs.Ytommekhmdmnjlaa
