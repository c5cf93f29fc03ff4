
/- Leaves and a row drawn. -/
import Derived.Test.YtofhkncdjjlllaaDrawX
import Derived.Lib.AppendZeros
namespace Go.Proofs.Ytofhkncdjjlllaa
open Go.RowKit

theorem Try.info5y : (Try.prog.info? 5).map (fun i => (i.zero, i.size, i.bytes)) = some (some (.int .u8 0), 1, 1) := by kernel_rfl
theorem wpList_appVy {ops : Array Oper} {rest : List Oper} {o : Oper} {a : Act} {w : World} {Q : Exit → Act → World → Prop} (s x : Operand)
    (B : Nat) (v : Value) (n : Nat) (xs : List Value) (m : Nat) (zs : List Int) (hm : n + m ≤ 1099511627776)
    (ho : o.op = .call { callee := .builtin .append, args := #[s, x], argTypes := #[22, 22] }) (hgd : o.guard = none)
    (hs : a.eval s = v) (hx : ∃ ad c, a.eval x = .slice (some ad) m c ∧ CellsAt w (some ad) m (bts zs))
    (hown : w.ownsRow B 5 1 v n xs) (hbase : B ≤ w.heap.size)
    (hK : ∀ a' c' w', w'.ownsRow B 5 1 (.slice a' (n + m) c') (n + m) (xs ++ bts zs) → Below B w w' → wpList Try.prog ops Q rest (a.put o.dst (.slice a' (n + m) c')) w') :
    wpList Try.prog ops Q (o :: rest) a w := by
  obtain ⟨ad, c, hx, hc⟩ := hx
  obtain ⟨i0, hi, hz0, hz1, hz2⟩ := info_parts Try.info5y
  have hl := hc.len.out
  refine wpList_append_own w hgd s x 22 ho B 5 i0 _ 1 1 Try.underlying22 hi hz0 hz1 hz2 rfl (by omega) v n xs hs hown ad m c (bts zs) hx (by simp [bts]; omega) ?_ ?_ (by unfold maxLen; omega) (by omega) hbase ?_
  · intro j u hj
    have hjl : j < (bts zs).length := (List.getElem?_eq_some_iff.1 hj).1
    simp [bts] at hjl
    obtain ⟨b, off, ha, hcc⟩ := hc.2 (by omega)
    simp only [Option.some.injEq] at ha
    subst ha
    have e : (⟨b, off, none⟩ : Addr).add j = ⟨b, off + j, none⟩ := by
      unfold Addr.add
      split
      · next h0 => subst h0; rfl
      · rfl
    rw [e, hcc j (by omega), hj]
  · intro u hu
    obtain ⟨z, _, rfl⟩ := List.mem_map.1 hu
    rfl
  · intro v' w' hown' hgrow _
    obtain ⟨a', c', rfl⟩ := owns_shape hown'
    refine hK a' c' w' hown' ((Below.refl _ _).grown hgrow hbase (fun k hk => ?_))
    rcases hown.2 with ⟨hv, _⟩ | ⟨g, cap', cur, hv, hb, _⟩
    · subst hv; simp [Value.ownBlock] at hk
    · subst hv; simp [Value.ownBlock] at hk; omega

theorem owns_capRy {w : World} {base : Nat} {e : TypeId} {size : Nat} {a : Option Addr} {n cap : Nat} {xs : List Value} (h : w.ownsRow base e size (.slice a n cap) n xs) : n ≤ cap := by
  rcases h.2 with ⟨hv, h0⟩ | ⟨g, cap', cur, hv, _, _, h1, _⟩
  · omega
  · simp only [Value.slice.injEq] at hv
    omega

theorem app_nily (g n cp c ty : Nat) (w : World) (h : n ≤ cp) : (Builtin.append_ #[22, 22] ty #[.slice (some ⟨g, 0, none⟩) n cp, .slice none 0 c]).run Try.prog w = .ok (.slice (some ⟨g, 0, none⟩) n cp) w := by
  obtain ⟨i0, hi, hz0, hz1, hz2⟩ := info_parts Try.info5y
  simp [Builtin.append_, run_underlying Try.underlying22, sizeOf, typeInfo, hi, Builtin.lenOf, Builtin.firstCells, h, storeCells]

/-- Bytes that came in, appended to bytes of one's own. -/
theorem wpList_appOy {ops : Array Oper} {rest : List Oper} {o : Oper} {a : Act} {w : World} {Q : Exit → Act → World → Prop} (s x : Operand)
    (B g n cp : Nat) (xs : List Value) (A : Option Addr) (m c : Nat) (zs : List Int) (hm : n + m ≤ 1099511627776)
    (ho : o.op = .call { callee := .builtin .append, args := #[s, x], argTypes := #[22, 22] }) (hgd : o.guard = none)
    (hs : a.eval s = .slice (some ⟨g, 0, none⟩) n cp) (hx : a.eval x = .slice A m c) (hc : CellsAt w A m (bts zs))
    (hown : w.ownsRow B 5 1 (.slice (some ⟨g, 0, none⟩) n cp) n xs) (hbase : B ≤ w.heap.size)
    (hK : ∀ a' c' w', w'.ownsRow B 5 1 (.slice a' (n + m) c') (n + m) (xs ++ bts zs) → Below B w w' → wpList Try.prog ops Q rest (a.put o.dst (.slice a' (n + m) c')) w') :
    wpList Try.prog ops Q (o :: rest) a w := by
  cases A with
  | some ad => exact wpList_appVy s x B _ n xs m zs hm ho hgd hs ⟨ad, c, hx, hc⟩ hown hbase hK
  | none =>
    have hm0 : m = 0 := by
      rcases Nat.eq_zero_or_pos m with h | h
      · exact h
      · obtain ⟨b, off, hb, _⟩ := hc.2 h; cases hb
    subst hm0
    have hz : zs = [] := by have := hc.len.out; exact List.length_eq_zero_iff.1 this.symm
    subst hz
    have hcap : n ≤ cp := owns_capRy hown
    have hr := app_nily g n cp c o.type w hcap
    refine Lib.wpList_append_run w hgd s x 22 22 ho _ _ hs hx _ _ hr ?_
    have := hK (some ⟨g, 0, none⟩) cp w (by simpa [bts] using hown) (Below.refl _ _)
    simpa using this

theorem OwnLv.drw {w : World} {B n : Nat} {v : Value} {ls : List (List Ch.Row)} (h : OwnLv w B v n ls) : OwnLv w.drew B v n ls := h
set_option linter.unusedSimpArgs false in
set_option maxRecDepth 100000 in
set_option maxHeartbeats 4000000 in
theorem drawPut_any (a : Option Addr) (n cap : Nat) (zs : List Int) (w : World) (h : CellsAt w a n (bts zs)) (hb : IsB zs) (hn : n ≤ 1048576) :
    Calls Try.prog 19 #[.slice a n cap] w fun e w' => ∃ ls a' m c', ∃ r : Ch.Row, Ch.bentLv ls ∧ e = .returned (.tuple #[.slice a' m c', .agg #[.int .i64 r.k, .int .i64 r.v, .bool r.g]]) ∧ OwnLv w' w.heap.size (.slice a' m c') m ls ∧ Below w.heap.size w w' := by
  have b0 : Below w.heap.size w (w.alloc (.cells #[.int .i64 0, .int .i64 0, .bool false] 42)) := (Below.refl _ _).alloc (Nat.le_refl _) _
  go_enter Try.func19, Try.ntmps19
  go_wp2_with fail
  refine (l3With_any a n cap zs _ (h.below b0) hb hn).mono ?_
  rintro e w1 ⟨ls, a1, m, c1, key, hbe, rfl, o1, b1⟩
  have R0 : w1.heap[w.heap.size]? = some (.cells #[.int .i64 0, .int .i64 0, .bool false] 42 (0, 0)) := (b1.block w.heap.size (by simp)).trans (heap_alloc_new w _)
  have b1w := below_box b1
  have hz1 : w.heap.size < w1.heap.size := (Array.getElem?_eq_some_iff.1 R0).1
  have hc1 := h.below b1w
  have hO : OwnLv w1 (w.heap.size + 1) (.slice a1 m c1) m ls := by simpa using o1
  have own0 : (w1.alloc (.cells #[.int .u8 3] 5)).ownsRow w1.heap.size 5 1 (.slice (some ⟨w1.heap.size, 0, none⟩) 1 1) 1 [.int .u8 3] := World.ownsRow_lit w1 #[.int .u8 3] 1 (Nat.le_refl _) (by unfold maxLen; omega) rfl
  have bL : Below w1.heap.size w1 (w1.alloc (.cells #[.int .u8 3] 5)) := (Below.refl _ _).alloc (Nat.le_refl _) _
  have hcL := hc1.below bL
  have hsum : 1 + n ≤ 1099511627776 := by omega
  clear b1 o1
  go_wp2_with (at_builtin; go_must (refine wpList_appOy (.tmp 13) (.tmp 14) w1.heap.size w1.heap.size 1 1 [.int .u8 3] a n cap zs hsum ?_ ?_ ?_ ?_ ?_ ?_ ?_ ?_; exact rfl; exact rfl; exact rfl; exact rfl; exact hcL; exact own0; (focus (simp; done)); intro a2 c2 w2 own2 b2))
  have B2 := bL.trans b2
  have hz2 := B2.size
  have hcs : CellsAt w2 a2 (1 + n) (bts (3 :: zs)) := by
    have := owns_cells own2
    rw [Nat.mul_one] at this
    simpa [bts] using this
  have hb3 : IsB (3 :: zs) := by
    intro i
    cases i with
    | zero => simp
    | succ i => simpa using hb i
  have R2 := (B2.block w.heap.size hz1).trans R0
  have O2 := hO.below B2
  have bE2 := b1w.trans (B2.mono b1w.size)
  clear own0 bL hcL b2 own2 hO hc1 R0 B2 b1w
  refine (source_any a2 (1 + n) c2 (3 :: zs) w2 hcs).mono ?_
  rintro e w3 ⟨rfl, S3, b3⟩
  have hz3 := S3.lt
  go_wp2_with fail
  refine (l1Row_any w2.heap.size a2 (1 + n) c2 0 (3 :: zs) w3 S3 hb3 (by omega) (by omega)).mono ?_
  rintro e w4 ⟨⟨rk, rv, rg⟩, k4, _, _, _, rfl, hk4, S4, G4⟩
  have hz4 := G4.size
  have B4 := b3.trans (below_gr (B := w2.heap.size) G4 (Nat.le_refl _) (by omega))
  have R4 := (B4.block w.heap.size (by omega)).trans R2
  have R4' : ∀ o, (w4.alloc o).heap[w.heap.size]? = some (.cells #[.int .i64 0, .int .i64 0, .bool false] 42 (0, 0)) := fun o => (Below.heap_alloc w4 o _ (by omega)).trans R4
  have O4 := O2.below B4
  clear S3 b3 G4 R2 R4 O4
  go_wp2_with fail
  refine (chance_any 2 w2.heap.size a2 (1 + n) c2 k4 (3 :: zs) _ S4.new hb3 (by omega) (by omega) (by omega) (by omega)).mono ?_
  rintro e w5 ⟨⟨cb, rfl⟩, S5, G5⟩
  have hX : w5.heap[w4.heap.size]? = some (.cells #[.int .i64 rk, .int .i64 rv, .bool rg] 42 (0, 0)) := gr_heap G5 (heap_alloc_new w4 _) (by simp; omega)
  have hR : w5.heap[w.heap.size]? = some (.cells #[.int .i64 0, .int .i64 0, .bool false] 42 (0, 0)) := gr_heap G5 (R4' _) (by simp; omega)
  have B5 : Below w2.heap.size w4 w5 := ((Below.refl _ _).alloc (by omega) _).trans (below_gr (B := w2.heap.size) G5 (Nat.le_refl _) (by simp; omega))
  have O5 : OwnLv w5 (w.heap.size + 1) (.slice a1 m c1) m ls := O2.below (B4.trans B5)
  have bE5 := (bE2.trans (B4.mono bE2.size)).trans (B5.mono (by omega))
  obtain ⟨p0, p1, p2⟩ := row3 hX
  obtain ⟨e0, e1, e2⟩ := frz3 hX
  obtain ⟨r0, r1, r2⟩ := row3 hR
  obtain ⟨f0, f1, f2⟩ := frz3 hR
  have lX := lt_of_cell p0
  have lR := lt_of_cell r0
  have hne : ¬ w.heap.size = w4.heap.size := by omega
  have hne' : ¬ w4.heap.size = w.heap.size := by omega
  have hX2 : w2.heap.size ≤ w4.heap.size := by omega
  generalize w4.heap.size = X at *
  cases cb
  · go_wp2
    go_region
    go_wp2
    refine bodyPost_ret (v := .tuple #[.slice a1 m c1, .agg #[.int .i64 rk, .int .i64 rv, .bool rg]]) (by simp [results, Try.results19, go_sem, r0, r1, r2, lR, hne, hne']) rfl ⟨ls, a1, m, c1, ⟨rk, rv, rg⟩, hbe, rfl, ?_, ?_⟩
    · exact ((((OwnLv.drw O5).box (p := w.heap.size) (o := 0) (by omega) _).box (p := w.heap.size) (o := 1) (by omega) _).box (p := w.heap.size) (o := 2) (by omega) _).base (by omega)
    · exact (((bE5.drew).setCell (p := ⟨w.heap.size, 0, none⟩) (Nat.le_refl _) _).setCell (p := ⟨w.heap.size, 1, none⟩) (Nat.le_refl _) _).setCell (p := ⟨w.heap.size, 2, none⟩) (Nat.le_refl _) _
  · have O6 : OwnLv (w5.setCell ⟨X, 0, none⟩ (.int .i64 key)) (w.heap.size + 1) (.slice a1 m c1) m ls := O2.below ((B4.trans B5).setCell (p := ⟨X, 0, none⟩) hX2 _)
    go_wp2
    go_region
    go_wp2
    refine bodyPost_ret (v := .tuple #[.slice a1 m c1, .agg #[.int .i64 key, .int .i64 rv, .bool rg]]) (by simp [results, Try.results19, go_sem, r0, r1, r2, lR, hne, hne']) rfl ⟨ls, a1, m, c1, ⟨key, rv, rg⟩, hbe, rfl, ?_, ?_⟩
    · exact ((((OwnLv.drw O6).box (p := w.heap.size) (o := 0) (by omega) _).box (p := w.heap.size) (o := 1) (by omega) _).box (p := w.heap.size) (o := 2) (by omega) _).base (by omega)
    · exact ((((bE5.setCell (p := ⟨X, 0, none⟩) (by show w.heap.size ≤ X; omega) _).drew).setCell (p := ⟨w.heap.size, 0, none⟩) (Nat.le_refl _) _).setCell (p := ⟨w.heap.size, 1, none⟩) (Nat.le_refl _) _).setCell (p := ⟨w.heap.size, 2, none⟩) (Nat.le_refl _) _
end Go.Proofs.Ytofhkncdjjlllaa
