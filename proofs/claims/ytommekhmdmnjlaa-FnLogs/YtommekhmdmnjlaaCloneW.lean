
/- Walks of the library's Clone, Grow and Concat at lists of bytes. -/
import Derived.Test.YtommekhmdmnjlaaWalW
import Derived.Lib.AppendZeros
import Derived.Lib.SliceRun
namespace Go.Proofs.Ytommekhmdmnjlaa
open Go.RowKit

theorem wpList_appV {ops : Array Oper} {rest : List Oper} {o : Oper} {a : Act} {w : World} {Q : Exit → Act → World → Prop} (s x : Operand)
    (B : Nat) (v : Value) (n : Nat) (xs : List Value) (m : Nat) (zs : List Int) (hm : n + m ≤ 1099511627776)
    (ho : o.op = .call { callee := .builtin .append, args := #[s, x], argTypes := #[22, 22] }) (hgd : o.guard = none)
    (hs : a.eval s = v) (hx : ∃ ad c, a.eval x = .slice (some ad) m c ∧ CellsAt w (some ad) m (bts zs))
    (hown : w.ownsRow B 5 1 v n xs) (hbase : B ≤ w.heap.size)
    (hK : ∀ a' c' w', w'.ownsRow B 5 1 (.slice a' (n + m) c') (n + m) (xs ++ bts zs) → Below B w w' → wpList Try.prog ops Q rest (a.put o.dst (.slice a' (n + m) c')) w') :
    wpList Try.prog ops Q (o :: rest) a w := by
  obtain ⟨ad, c, hx, hc⟩ := hx
  obtain ⟨i0, hi, hz0, hz1, hz2⟩ := info_parts Try.info5
  have hl := hc.len.out
  refine wpList_append_own w hgd s x 22 ho B 5 i0 _ 1 1 Try.underlying22 hi hz0 hz1 hz2 rfl (by omega) v n xs hs hown ad m c (bts zs) hx (by simp [bts]; omega) ?_ ?_ (by unfold maxLen; omega) (by omega) hbase ?_
  · intro j u hj
    have hjl : j < (bts zs).length := (List.getElem?_eq_some_iff.1 hj).1
    simp [bts] at hjl
    obtain ⟨b, off, ha, hcc⟩ := hc.2 (by omega)
    simp only [Option.some.injEq] at ha
    subst ha
    have e : (⟨b, off, none⟩ : Addr).add j = ⟨b, off + j, none⟩ := by
      unfold Addr.add
      split
      · next h0 => subst h0; rfl
      · rfl
    rw [e, hcc j (by omega), hj]
  · intro u hu
    obtain ⟨z, _, rfl⟩ := List.mem_map.1 hu
    rfl
  · intro v' w' hown' hgrow _
    obtain ⟨a', c', rfl⟩ := owns_shape hown'
    refine hK a' c' w' hown' ((Below.refl _ _).grown hgrow hbase (fun k hk => ?_))
    rcases hown.2 with ⟨hv, _⟩ | ⟨g, cap', cur, hv, hb, _⟩
    · subst hv; simp [Value.ownBlock] at hk
    · subst hv; simp [Value.ownBlock] at hk; omega

theorem empty_own (w : World) (B : Nat) (hB : B ≤ w.heap.size) : (w.alloc (.cells #[] 5)).ownsRow B 5 1 (.slice (some ⟨w.heap.size, 0, none⟩) 0 0) 0 [] :=
  World.ownsRow_lit w #[] 0 hB (by unfold maxLen; omega) rfl

set_option maxHeartbeats 400000 in
theorem clone_any (ad : Addr) (n cap : Nat) (zs : List Int) (w : World) (h : CellsAt w (some ad) n (bts zs)) (hn : n ≤ 1048576) :
    Calls Try.prog 37 #[.slice (some ad) n cap] w fun e w' => ∃ a' c', e = .returned (.slice a' n c') ∧ w'.ownsRow w.heap.size 5 1 (.slice a' n c') n (bts zs) ∧ Below w.heap.size w w' := by
  have hnil := fun W => Lib.run_eql_slice_nil (P := Try.prog) W 22 5 (some ad) n cap 0 0 Try.underlying22
  simp only [Option.isNone_some] at hnil
  have hb0 : Below w.heap.size w (w.alloc (.cells #[] 5)) := (Below.refl _ _).alloc (Nat.le_refl _) _
  have hc := h.below hb0
  have ho := empty_own w w.heap.size (Nat.le_refl _)
  have hm : 0 + n ≤ 1099511627776 := by omega
  go_enter Try.func37, Try.ntmps37
  go_wp2_with (at_builtin; go_must (refine wpList_appV (.tmp 5) (.tmp 6) w.heap.size (.slice (some ⟨w.heap.size, 0, none⟩) 0 0) 0 [] n zs hm ?_ ?_ ?_ ?_ ?_ ?_ ?_; exact rfl; exact rfl; exact rfl; exact ⟨_, _, rfl, hc⟩; exact ho; (focus (simp; done)); intro a1 c1 w1 own1 b1))
  go_ret
  rw [Nat.zero_add] at own1
  refine ⟨a1, c1, rfl, by simpa using own1, hb0.trans b1⟩

theorem Try.underI : Try.prog.underlying 3 = some (.int .i64) := Try.underlying3

set_option maxHeartbeats 400000 in
theorem grow_zero (w : World) : Calls Try.prog 56 #[.slice none 0 0, .int .i64 0] w fun e w' => e = .returned (.slice none 0 0) ∧ w' = w := by
  go_enter Try.func56, Try.ntmps56
  go_wp2
  go_ret
  exact ⟨rfl, rfl⟩

theorem grow_run (k ty : Nat) (w : World) (h0 : 0 < k) (hk : k ≤ 2097152) :
    ∃ c W1, (Builtin.append_ #[22, 3] ty #[.slice none 0 0, .int .i64 k]).run Try.prog w = .ok (.slice (some ⟨w.heap.size, 0, none⟩) k c) W1 ∧ k ≤ c ∧ W1.ownsRow w.heap.size 5 1 (.slice (some ⟨w.heap.size, 0, none⟩) 0 c) 0 [] ∧ Below w.heap.size w W1 := by
  obtain ⟨i0, hi, hz0, hz1, hz2⟩ := info_parts Try.info5
  have hrun := Lib.run_append_nil_zeros (P := Try.prog) w 22 3 ty 5 i0 (.int .u8 0) .i64 .i64 Try.underlying22 Try.underlying3 hi hz0 k h0 (by omega) (by omega) (by rw [hz2]; omega)
  have hge := grownCap_ge w k 0 5
  have hle := grownCap_le_maxLen w k 0 5 (by unfold maxLen; omega)
  refine ⟨_, _, hrun, hge, ⟨rfl, .inr ⟨w.heap.size, grownCap w k 0 5, _, rfl, Nat.le_refl _, heap_new' (by simp), Nat.zero_le _, hle, ?_, rfl⟩⟩, ((Below.refl _ _).drew).alloc (by simp) _⟩
  simp [Builtin.zeroCells, Value.cells]
  omega

theorem wpList_appZ {ops : Array Oper} {rest : List Oper} {o : Oper} {a : Act} {w : World} {Q : Exit → Act → World → Prop} (s x : Operand) (k : Nat) (h0 : 0 < k) (hk : k ≤ 2097152)
    (ho : o.op = .call { callee := .builtin .append, args := #[s, x], argTypes := #[22, 3] }) (hgd : o.guard = none)
    (hs : a.eval s = .slice none 0 0) (hx : a.eval x = .int .i64 k)
    (hK : ∀ c W1, k ≤ c → W1.ownsRow w.heap.size 5 1 (.slice (some ⟨w.heap.size, 0, none⟩) 0 c) 0 [] → Below w.heap.size w W1 → wpList Try.prog ops Q rest (a.put o.dst (.slice (some ⟨w.heap.size, 0, none⟩) k c)) W1) :
    wpList Try.prog ops Q (o :: rest) a w := by
  obtain ⟨c, W1, hrun, hc, own, b⟩ := grow_run k o.type w h0 hk
  refine wpList_plain hgd fun K hK' => ?_
  unfold Oper.wp
  simp [execOp, ho, resolve, invoke, builtin, hs, hx, hrun, Result.andThen]
  exact hK' _ _ (hK c W1 hc own b)

set_option maxRecDepth 10000 in
set_option maxHeartbeats 400000 in
theorem grow_some (k : Nat) (w : World) (h0 : 0 < k) (hk : k ≤ 2097152) : Calls Try.prog 56 #[.slice none 0 0, .int .i64 k] w fun e w' => ∃ a' c', e = .returned (.slice a' 0 c') ∧ w'.ownsRow w.heap.size 5 1 (.slice a' 0 c') 0 [] ∧ Below w.heap.size w w' := by
  have i1 : (0 : Int) < (k : Int) := by omega
  have i2 : ¬ (k : Int) < 0 := by omega
  go_enter Try.func56, Try.ntmps56
  go_wp2_with (at_builtin; go_must (refine wpList_appZ (.tmp 20) (.tmp 21) k h0 hk ?_ ?_ ?_ ?_ ?_; exact rfl; exact rfl; exact rfl; exact rfl; intro c W1 hc own b; have hc0 : ¬ c = 0 := Nat.ne_of_gt (Nat.lt_of_lt_of_le h0 hc)))
  go_ret
  exact ⟨some ⟨w.heap.size, 0, none⟩, c, rfl, own, b⟩
end Go.Proofs.Ytommekhmdmnjlaa
