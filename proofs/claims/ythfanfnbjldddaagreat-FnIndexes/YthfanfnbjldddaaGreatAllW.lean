
/- All rows of leaves: the model's and the program's walks. -/
import Derived.Test.YthfanfnbjldddaaGreatForW
namespace Go.Proofs.YthfanfnbjldddaaGreat
open Go.RowKit

theorem rcells_append (a b : List Ch.Row) : rcells (a ++ b) = rcells a ++ rcells b := by simp [rcells]
theorem rcells_one (rs : List Ch.Row) : ∀ u ∈ rcells rs, u.oneCell' = true := by
  intro u hu
  simp only [rcells, List.mem_flatMap, List.mem_cons, List.not_mem_nil, or_false] at hu
  obtain ⟨r, _, rfl | rfl | rfl⟩ := hu <;> rfl

/-- Rows appended to rows of one's own. -/
theorem wpList_appRs {ops : Array Oper} {rest : List Oper} {o : Oper} {a : Act} {w : World} {Q : Exit → Act → World → Prop} (s x : Operand)
    (B : Nat) (v : Value) (n : Nat) (rs : List Ch.Row) (m : Nat) (zs : List Ch.Row) (hm : n + m ≤ 2097152)
    (ho : o.op = .call { callee := .builtin .append, args := #[s, x], argTypes := #[48, 48] }) (hgd : o.guard = none)
    (hs : a.eval s = v) (hx : ∃ ad c, a.eval x = .slice (some ad) m c ∧ CellsAt w (some ad) (m * 3) (rcells zs))
    (hown : w.ownsRow B 53 3 v n (rcells rs)) (hbase : B ≤ w.heap.size)
    (hK : ∀ a' c' w', w'.ownsRow B 53 3 (.slice a' (n + m) c') (n + m) (rcells (rs ++ zs)) → Below B w w' → wpList Tryz.prog ops Q rest (a.put o.dst (.slice a' (n + m) c')) w') :
    wpList Tryz.prog ops Q (o :: rest) a w := by
  obtain ⟨ad, c, hx, hc⟩ := hx
  obtain ⟨i0, hi, hz0, hz1, hz2⟩ := info_parts Tryz.info53
  refine wpList_append_own w hgd s x 48 ho B 53 i0 _ 3 24 Tryz.underlying48 hi hz0 hz1 hz2 rfl (by omega) v n (rcells rs) hs hown ad m c (rcells zs) hx hc.1 ?_ (rcells_one zs) (by unfold maxLen; omega) (by omega) hbase ?_
  · intro j u hj
    have hjl : j < (rcells zs).length := (List.getElem?_eq_some_iff.1 hj).1
    have hl := hc.1
    obtain ⟨b, off, ha, hcc⟩ := hc.2 (by omega)
    simp only [Option.some.injEq] at ha
    subst ha
    have e : (⟨b, off, none⟩ : Addr).add j = ⟨b, off + j, none⟩ := by
      unfold Addr.add
      split
      · next h0 => subst h0; rfl
      · rfl
    rw [e, hcc j (by omega), hj]
  · intro v' w' hown' hgrow _
    rw [← rcells_append] at hown'
    obtain ⟨a', c', rfl⟩ := owns_shape hown'
    refine hK a' c' w' hown' ((Below.refl _ _).grown hgrow hbase (fun k hk => ?_))
    rcases hown.2 with ⟨hv, _⟩ | ⟨g, cap', cur, hv, hb, _⟩
    · subst hv; simp [Value.ownBlock] at hk
    · subst hv; simp [Value.ownBlock] at hk; omega

theorem empty_rows (w : World) (B : Nat) (hB : B ≤ w.heap.size) : (w.alloc (.cells #[] 53)).ownsRow B 53 3 (.slice (some ⟨w.heap.size, 0, none⟩) 0 0) 0 (rcells []) :=
  World.ownsRow_lit w #[] 0 hB (by unfold maxLen; omega) rfl

theorem Ch.flat_take (ls : List (List Ch.Row)) (k : Nat) (h : k < ls.length) : (ls.take (k + 1)).flatten = (ls.take k).flatten ++ ls.getD k [] := by
  rw [Ch.take_snoc ls [] k h]; simp
theorem Ch.flat_len (ls : List (List Ch.Row)) : ls.flatten.length = (ls.map List.length).sum := by simp [List.length_flatten]
theorem Ch.flat_small {ls : List (List Ch.Row)} (hs : Ch.lvSize ls ≤ 1048576) (k : Nat) : (ls.take k).flatten.length ≤ 1048576 := by
  have := Ch.lv_le ls k
  rw [Ch.flat_len]
  unfold Ch.lvSize at hs
  omega

set_option maxHeartbeats 800000 in
theorem specRows_any (a : Option Addr) (n cap : Nat) (ls : List (List Ch.Row)) (w : World) (h : LvAt w a n ls) (hs : Ch.lvSize ls ≤ 1048576) (hg : ∀ k, k < n → (ls.getD k []).length ≠ 0) :
    Calls Tryz.prog 53 #[.slice a n cap] w fun e w' => ∃ a' c', e = .returned (.slice a' ls.flatten.length c') ∧ w'.ownsRow w.heap.size 53 3 (.slice a' ls.flatten.length c') ls.flatten.length (rcells ls.flatten) ∧ Below w.heap.size w w' := by
  have HL := h.len
  have hn : n ≤ 1048576 := by unfold Ch.lvSize at hs; have := HL.out; omega
  have o0 := empty_rows w w.heap.size (Nat.le_refl _)
  go_enter Tryz.func53, Tryz.ntmps53
  go_wp2
  go_loopw [3, 4] (fun q i wr => ∃ (k m : Nat) (a' : Option Addr) (c' : Nat), k ≤ n ∧ i = .int .i64 k ∧ q = .slice a' m c' ∧ Hid (m = (ls.take k).flatten.length) ∧ wr.ownsRow w.heap.size 53 3 (.slice a' m c') m (rcells (ls.take k).flatten) ∧ Below w.heap.size w wr) (fun _ i _ => n - (intOf i).toNat)
  case atStart => exact ⟨0, 0, _, _, Nat.zero_le _, rfl, rfl, rfl, by simpa using o0, (Below.refl _ _).alloc (Nat.le_refl _) _⟩
  case round =>
    obtain ⟨k, m, a', c', hk, rfl, rfl, HM, own, hB⟩ := hrel
    by_cases hlt : k < n
    · have HS := hid (Ch.lv_leaf hs k)
      have HF := hid (Ch.flat_take ls k (by have := HL.out; omega))
      have HZ := hid (Ch.flat_small hs k)
      have hg0 := hg k hlt
      obtain ⟨b, off, ai, ni, ci, rfl, hc, hr, hni⟩ := (h.below hB).leaf hlt
      have HRl := hr.rlen
      obtain ⟨b1, o1, rfl, _⟩ := hr.row (k := 0) (by have := HRl.out; omega)
      have hsum : m + ni ≤ 2097152 := by have := HZ.out; have := HM.out; have := HS.out; have := HRl.out; omega
      generalize ls.getD k [] = l at *
      generalize (ls.take k).flatten = F at *
      go_wp2_with (at_builtin; go_must (refine wpList_appRs (.tmp 12) (.tmp 17) w.heap.size (.slice a' m c') m F ni l hsum ?_ ?_ ?_ ?_ ?_ ?_ ?_; exact rfl; exact rfl; exact rfl; exact ⟨_, _, rfl, hr⟩; exact own; exact hB.size; intro a3 c3 w3 own3 b3))
      go_roundw
      case rel => exact ⟨k + 1, m + ni, a3, c3, by omega, by go_num, rfl, (by show _ = _; rw [HF.out]; have h1 := HM.out; have h2 := HRl.out; simp; omega), by rw [HF.out]; exact own3, hB.trans b3⟩
      case measure => simp [intOf]; omega
    · obtain rfl : k = n := by omega
      go_wp2
      go_ret
      have e1 := HL.out
      have e2 := HM.out
      rw [List.take_of_length_le (by omega)] at own e2
      subst e2
      exact ⟨a', c', rfl, own, hB⟩

end Go.Proofs.YthfanfnbjldddaaGreat
