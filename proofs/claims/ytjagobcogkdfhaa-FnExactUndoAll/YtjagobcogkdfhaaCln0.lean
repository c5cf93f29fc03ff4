
/- Leaves that are none, copied. -/
import Derived.Test.YtjagobcogkdfhaaCopyW
import Derived.Maps.AppendAt
import Derived.Lib.AppendZeros
namespace Go.Proofs.Ytjagobcogkdfhaa
open Go.RowKit

theorem wpList_app0 {ops : Array Oper} {rest : List Oper} {o : Oper} {a : Act} {w : World} {Q : Exit → Act → World → Prop} (s x : Operand)
    (B : Nat) (v : Value) (n : Nat) (xs : List Value) (ad : Addr) (c : Nat) (hn : n ≤ 2097152)
    (ho : o.op = .call { callee := .builtin .append, args := #[s, x], argTypes := #[24, 24] }) (hgd : o.guard = none)
    (hs : a.eval s = v) (hx : a.eval x = .slice (some ad) 0 c) (hown : w.ownsRow B 120 1 v n xs) (hbase : B ≤ w.heap.size)
    (hK : ∀ a' c' w', w'.ownsRow B 120 1 (.slice a' n c') n xs → w.grownBy w' v.ownBlock → wpList Try.prog ops Q rest (a.put o.dst (.slice a' n c')) w') :
    wpList Try.prog ops Q (o :: rest) a w := by
  obtain ⟨i0, hi, hz0, hz1, hz2⟩ := info_parts Try.info120
  obtain ⟨v', w', hr, h2, h3, _, h5⟩ := run_append_own_at (P := Try.prog) w B 24 o.type 120 i0 _ 1 24 Try.underlying24 hi hz0 hz1 hz2 rfl (by omega) v n xs hown ad 0 c [] rfl (fun j u hj => by simp at hj) (fun u hu => by cases hu) (by unfold maxLen; omega) (by omega) hbase
  obtain ⟨a', c', rfl⟩ := owns_shape h2
  rw [List.append_nil] at h2
  exact Lib.wpList_append_run w hgd s x 24 24 ho _ _ hs hx _ _ hr (hK a' c' w' h2 h3)

set_option maxHeartbeats 400000 in
theorem cloneLeaf0_any (a : Option Addr) (cap : Nat) (w : World) :
    Calls Try.prog 200 #[.slice a 0 cap] w fun e w' => ∃ a' c', e = .returned (.slice a' 0 c') ∧ w'.ownsRow w.heap.size 120 1 (.slice a' 0 c') 0 [] ∧ Below w.heap.size w w' := by
  have hnil := fun W => Lib.run_eql_slice_nil (P := Try.prog) W 24 120 a 0 cap 0 0 Try.underlying24
  cases a with
  | none =>
    simp only [Option.isNone_none] at hnil
    go_enter Try.func200, Try.ntmps200
    go_wp2
    go_ret
    exact ⟨none, 0, rfl, World.ownsRow_nil _ _ _ _, Below.refl _ _⟩
  | some ad =>
    simp only [Option.isNone_some] at hnil
    have hb0 : Below w.heap.size w (w.alloc (.cells #[] 120)) := (Below.refl _ _).alloc (Nat.le_refl _) _
    have ho := empty_leaves w w.heap.size (Nat.le_refl _)
    go_enter Try.func200, Try.ntmps200
    go_wp2_with (at_builtin; go_must (refine wpList_app0 (.tmp 5) (.tmp 6) w.heap.size (.slice (some ⟨w.heap.size, 0, none⟩) 0 0) 0 [] ad cap (by omega) ?_ ?_ ?_ ?_ ho ?_ ?_; exact rfl; exact rfl; exact rfl; exact rfl; (focus (simp; done)); intro a1 c1 w1 own1 gr1))
    go_ret
    exact ⟨a1, c1, rfl, own1, hb0.grown gr1 (by simp) (fun k hk => by simp [Value.ownBlock] at hk; omega)⟩

set_option maxHeartbeats 800000 in
theorem cloneLeavesAll_any (a : Option Addr) (n cap : Nat) (ls : List (List Ch.Row)) (w : World) (h : LvAt w a n ls) (hs : Ch.lvSize ls ≤ 1048576) (hg : ∀ k, k < n → (ls.getD k []).length ≠ 0) :
    Calls Try.prog 168 #[.slice a n cap] w fun e w' => ∃ a' c', e = .returned (.slice a' n c') ∧ OwnLv w' w.heap.size (.slice a' n c') n ls ∧ Below w.heap.size w w' := by
  by_cases hn0 : 0 < n
  · refine (cloneLeaves_any a n cap ls w h hs hg hn0).mono ?_
    rintro e w1 ⟨g, c', rfl, o1, b1⟩
    exact ⟨_, c', rfl, o1, b1⟩
  · obtain rfl : n = 0 := by omega
    have hl : ls = [] := List.eq_nil_of_length_eq_zero h.len.out.symm
    subst hl
    go_enter Try.func168, Try.ntmps168
    go_wp2_with fail
    refine (cloneLeaf0_any a cap _).mono ?_
    rintro e w1 ⟨a1, c1, rfl, o1, b1⟩
    go_wp2
    go_loopw [10] (fun i wr => i = .int .i64 0 ∧ wr = w1) (fun _ _ => 0)
    case atStart => exact ⟨rfl, rfl⟩
    case round =>
      obtain ⟨rfl, rfl⟩ := hrel
      go_wp2
      go_ret
      exact ⟨a1, c1, rfl, ⟨rfl, [], o1, fun i hi => absurd hi (by omega), fun i j x y g _ hx => by simp at hx, fun i x g hx => by simp at hx⟩, b1⟩
end Go.Proofs.Ytjagobcogkdfhaa
