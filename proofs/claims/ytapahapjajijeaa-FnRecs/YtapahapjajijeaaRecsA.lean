
/- What the law FnRecs leans on: a record drawn, a cut, appends, records compared. -/
import Derived.Test.YtapahapjajijeaaDrawR
import Derived.Test.YtapahapjajijeaaRecsM
import Derived.Test.YtapahapjajijeaaPackL
import Derived.Test.YtapahapjajijeaaRecS
import Derived.Test.YtapahapjajijeaaCloneW
import Derived.Laws.StructEq
namespace Go.Proofs.Ytapahapjajijeaa
open Go.RowKit

def Ag (r : Ch.Rec) : Value := .agg #[.int .i64 r.kd, .int .i64 r.tx, .int .i64 r.ky, .bool r.hd, .int .i64 r.ol, .bool r.hs, .int .i64 r.nw]

theorem owns_capR {w : World} {base : Nat} {e : TypeId} {size : Nat} {a : Option Addr} {n cap : Nat} {xs : List Value} (h : w.ownsRow base e size (.slice a n cap) n xs) : n ≤ cap := by
  rcases h.2 with ⟨hv, h0⟩ | ⟨g, cap', cur, hv, _, _, h1, _⟩
  · omega
  · simp only [Value.slice.injEq] at hv
    omega

theorem app_nil (g n cp c ty : Nat) (w : World) (h : n ≤ cp) : (Builtin.append_ #[22, 22] ty #[.slice (some ⟨g, 0, none⟩) n cp, .slice none 0 c]).run Try.prog w = .ok (.slice (some ⟨g, 0, none⟩) n cp) w := by
  obtain ⟨i0, hi, hz0, hz1, hz2⟩ := info_parts Try.info5
  simp [Builtin.append_, run_underlying Try.underlying22, sizeOf, typeInfo, hi, Builtin.lenOf, Builtin.firstCells, h, storeCells]

/-- Bytes that came in, appended to bytes of one's own. -/
theorem wpList_appO {ops : Array Oper} {rest : List Oper} {o : Oper} {a : Act} {w : World} {Q : Exit → Act → World → Prop} (s x : Operand)
    (B g n cp : Nat) (xs : List Value) (A : Option Addr) (m c : Nat) (zs : List Int) (hm : n + m ≤ 1099511627776)
    (ho : o.op = .call { callee := .builtin .append, args := #[s, x], argTypes := #[22, 22] }) (hgd : o.guard = none)
    (hs : a.eval s = .slice (some ⟨g, 0, none⟩) n cp) (hx : a.eval x = .slice A m c) (hc : CellsAt w A m (bts zs))
    (hown : w.ownsRow B 5 1 (.slice (some ⟨g, 0, none⟩) n cp) n xs) (hbase : B ≤ w.heap.size)
    (hK : ∀ a' c' w', w'.ownsRow B 5 1 (.slice a' (n + m) c') (n + m) (xs ++ bts zs) → Below B w w' → wpList Try.prog ops Q rest (a.put o.dst (.slice a' (n + m) c')) w') :
    wpList Try.prog ops Q (o :: rest) a w := by
  cases A with
  | some ad => exact wpList_appV s x B _ n xs m zs hm ho hgd hs ⟨ad, c, hx, hc⟩ hown hbase hK
  | none =>
    have hm0 : m = 0 := by
      rcases Nat.eq_zero_or_pos m with h | h
      · exact h
      · obtain ⟨b, off, hb, _⟩ := hc.2 h; cases hb
    subst hm0
    have hz : zs = [] := by have := hc.len.out; exact List.length_eq_zero_iff.1 this.symm
    subst hz
    have hcap : n ≤ cp := owns_capR hown
    have hr := app_nil g n cp c o.type w hcap
    refine Lib.wpList_append_run w hgd s x 22 22 ho _ _ hs hx _ _ hr ?_
    have := hK (some ⟨g, 0, none⟩) cp w (by simpa [bts] using hown) (Below.refl _ _)
    simpa using this

/-- Bytes of one's own appended to bytes of one's own: where they lie. -/
theorem wpList_appB {ops : Array Oper} {rest : List Oper} {o : Oper} {a : Act} {w : World} {Q : Exit → Act → World → Prop} (s x : Operand)
    (B g n cp : Nat) (xs : List Value) (ad : Addr) (m c : Nat) (zs : List Int) (hm : n + m ≤ 1099511627776) (hm0 : 0 < m)
    (ho : o.op = .call { callee := .builtin .append, args := #[s, x], argTypes := #[22, 22] }) (hgd : o.guard = none)
    (hs : a.eval s = .slice (some ⟨g, 0, none⟩) n cp) (hx : a.eval x = .slice (some ad) m c) (hc : CellsAt w (some ad) m (bts zs))
    (hown : w.ownsRow B 5 1 (.slice (some ⟨g, 0, none⟩) n cp) n xs) (hbase : B ≤ w.heap.size)
    (hK : ∀ g' c' w', w'.ownsRow B 5 1 (.slice (some ⟨g', 0, none⟩) (n + m) c') (n + m) (xs ++ bts zs) → w.grownBy w' (some g) → (g' = g ∨ g' = w.heap.size) → wpList Try.prog ops Q rest (a.put o.dst (.slice (some ⟨g', 0, none⟩) (n + m) c')) w') :
    wpList Try.prog ops Q (o :: rest) a w := by
  obtain ⟨i0, hi, hz0, hz1, hz2⟩ := info_parts Try.info5
  have hl := hc.len.out
  refine wpList_append_lies w hgd s x 22 ho B 5 i0 _ 1 1 Try.underlying22 hi hz0 hz1 hz2 rfl (by omega) _ n xs hs hown ad m c (bts zs) hx (by simp [bts]; omega) ?_ ?_ hm0 (by unfold maxLen; omega) (by omega) hbase _ rfl ?_
  · intro j u hj
    have hjl : j < (bts zs).length := (List.getElem?_eq_some_iff.1 hj).1
    simp [bts] at hjl
    obtain ⟨b, off, ha, hcc⟩ := hc.2 (by omega)
    simp only [Option.some.injEq] at ha
    subst ha
    have e : (⟨b, off, none⟩ : Addr).add j = ⟨b, off + j, none⟩ := by
      unfold Addr.add
      split
      · next h0 => subst h0; rfl
      · rfl
    rw [e, hcc j (by omega), hj]
  · intro u hu
    obtain ⟨z, _, rfl⟩ := List.mem_map.1 hu
    rfl
  · intro g' cp' w' hown' hgrow hat hlt
    refine hK g' cp' w' hown' hgrow ?_
    rcases hat with hat | hat
    · simp [Value.ownBlock] at hat; exact .inl hat.symm
    · exact .inr hat

/-- A record appended to records of one's own. -/
theorem wpList_appC {ops : Array Oper} {rest : List Oper} {o : Oper} {a : Act} {w : World} {Q : Exit → Act → World → Prop} (s x : Operand)
    (B g n cp : Nat) (rs : List Ch.Rec) (r : Ch.Rec) (hn : n ≤ 1048576)
    (ho : o.op = .call { callee := .builtin .append, args := #[s, x], argTypes := #[24, 24] }) (hgd : o.guard = none)
    (hs : a.eval s = .slice (some ⟨g, 0, none⟩) n cp) (hx : ∃ h c t, a.eval x = .slice (some ⟨h, 0, none⟩) 1 c ∧ w.heap[h]? = some (.cells (c7 r).toArray t (0, 0)))
    (hown : w.ownsRow B 26 7 (.slice (some ⟨g, 0, none⟩) n cp) n (rc7 rs)) (hbase : B ≤ w.heap.size)
    (hK : ∀ g' c' w', w'.ownsRow B 26 7 (.slice (some ⟨g', 0, none⟩) (n + 1) c') (n + 1) (rc7 (rs ++ [r])) → w.grownBy w' (some g) → (g' = g ∨ g' = w.heap.size) → wpList Try.prog ops Q rest (a.put o.dst (.slice (some ⟨g', 0, none⟩) (n + 1) c')) w') :
    wpList Try.prog ops Q (o :: rest) a w := by
  obtain ⟨h, c, t, hx, hblk⟩ := hx
  obtain ⟨i0, hi, hz0, hz1, hz2⟩ := info_parts Try.info26
  refine wpList_append_lies w hgd s x 24 ho B 26 i0 _ 7 56 Try.underlying24 hi hz0 hz1 hz2 rfl (by omega) _ n (rc7 rs) hs hown ⟨h, 0, none⟩ 1 c (c7 r) hx rfl (World.news_of_block hblk) (by simp [c7, Value.oneCell']) (by omega) (by unfold maxLen; omega) (by omega) hbase _ rfl ?_
  intro g' cp' w' hown' hgrow hat hlt
  rw [← rc7_snoc] at hown'
  refine hK g' cp' w' hown' hgrow ?_
  rcases hat with hat | hat
  · simp [Value.ownBlock] at hat; exact .inl hat.symm
  · exact .inr hat

theorem drawRec_any (a : Option Addr) (n cap : Nat) (zs : List Int) (w : World) (h : CellsAt w a n (bts zs)) (hb : IsB zs) (hn : n ≤ 1048580) :
    Calls Try.prog 16 #[.slice a n cap] w fun e w' => ∃ r : Ch.Rec, e = .returned (Ag r) ∧ Below w.heap.size w w' := by
  have b0 : Below w.heap.size w (w.alloc (.cells #[.int .i64 0, .int .i64 0, .int .i64 0, .bool false, .int .i64 0, .bool false, .int .i64 0] 26)) := (Below.refl _ _).alloc (Nat.le_refl _) _
  go_enter Try.func16, Try.ntmps16
  go_wp2_with fail
  refine (source_any a n cap zs _ (h.below b0)).mono ?_
  rintro e w1 ⟨rfl, s1, b1⟩
  have hR : w1.heap[w.heap.size]? = some (.cells #[.int .i64 0, .int .i64 0, .int .i64 0, .bool false, .int .i64 0, .bool false, .int .i64 0] 26 (0, 0)) := (b1.block _ (by simp)).trans (heap_alloc_new w _)
  have b1' := b0.trans (b1.mono (by simp))
  simp only [World.alloc, Array.size_push] at s1
  go_wp2_with fail
  refine (l2Bent_any _ a n cap 0 zs _ s1 hb hn (by omega)).mono ?_
  rintro e w2 ⟨⟨kd, tx, ky, hd, ol, hs, nw⟩, k', rfl, _, _, g2⟩
  have hR := gr_heap g2 hR (by simp)
  have b2 := b1'.grown g2 b1'.size (fun k hk => by simp at hk; omega)
  obtain ⟨r0, r1, r2, r3, r4, r5, r6⟩ := row7 hR
  obtain ⟨f0, f1, f2, f3, f4, f5, f6⟩ := frz7 hR
  go_wp2
  exact bodyPost_ret (v := .agg #[.int .i64 kd, .int .i64 tx, .int .i64 ky, .bool hd, .int .i64 ol, .bool hs, .int .i64 nw]) (by simp [results, Try.results16, go_sem, r0, r1, r2, r3, r4, r5, r6]) rfl ⟨⟨kd, tx, ky, hd, ol, hs, nw⟩, rfl, below_set7 b2 (Nat.le_refl _) _ _ _ _ _ _ _⟩

set_option maxHeartbeats 1000000 in
theorem lwAt_any (a : Option Addr) (n cap : Nat) (N : Nat) (zs : List Int) (w : World) (h : CellsAt w a n (bts zs)) (hb : IsB zs) (hn : n ≤ 1048580) (h1 : 1 ≤ N) (h2 : N ≤ 200) :
    Calls Try.prog 20 #[.slice a n cap, .int .i64 1, .int .i64 (N : Int)] w fun e w' => ∃ c : Nat, c < N ∧ e = .returned (.int .i64 (c : Int)) ∧ Below w.heap.size w w' := by
  by_cases hN : N ≤ 1
  · go_enter Try.func20, Try.ntmps20
    go_wp2
    go_ret
    exact ⟨0, by omega, rfl, Below.refl _ _⟩
  have hN1 : ¬ (N : Int) ≤ 1 := by omega
  have hN2 : (N : Int) ≠ 0 := by omega
  by_cases h0 : n = 0
  · subst h0
    obtain ⟨c, hc, hcN⟩ : ∃ c : Nat, (7 : Int) % (N : Int) = (c : Int) ∧ c < N := ⟨7 % N, by simp, Nat.mod_lt _ (by omega)⟩
    go_enter Try.func20, Try.ntmps20
    go_wp2
    go_ret
    exact ⟨c, hcN, by first | exact ret_int hc | rfl, Below.refl _ _⟩
  · obtain ⟨j, hj, hjn⟩ : ∃ j : Nat, (1 : Int) % (n : Int) = j ∧ j < n := ⟨1 % n, by simp, Nat.mod_lt _ (by omega)⟩
    obtain ⟨p, hp, hpk⟩ : ∃ p : Nat, (1 : Int) / (n : Int) = p ∧ p ≤ 1 := ⟨1 / n, by simp, Nat.div_le_self _ _⟩
    obtain ⟨b, off, rfl, hc⟩ := h.at hjn
    obtain ⟨x0, x1⟩ := hb j
    generalize zs.getD j 0 = x at *
    have hn0 : ((n : Int) == 0) = false := by simpa using h0
    have hn1 : (n : Int) ≠ 0 := by omega
    have hg : ¬ (200 : Int) < (N : Int) := by omega
    obtain ⟨c, hcc, hcN⟩ : ∃ c : Nat, (x + (p : Int) * 3) % (N : Int) = (c : Int) ∧ c < N := by
      have m0 : 0 ≤ (x + (p : Int) * 3) % (N : Int) := Int.emod_nonneg _ (by omega)
      have m1 : (x + (p : Int) * 3) % (N : Int) < N := Int.emod_lt_of_pos _ (by omega)
      exact ⟨((x + (p : Int) * 3) % (N : Int)).toNat, by omega, by omega⟩
    go_enter Try.func20, Try.ntmps20
    go_wp2
    go_quiet (fail)
    go_wp2
    go_ret
    exact ⟨c, hcN, by first | exact ret_int hcc | rfl, below_drewN (Below.refl _ _) _⟩
end Go.Proofs.Ytapahapjajijeaa
