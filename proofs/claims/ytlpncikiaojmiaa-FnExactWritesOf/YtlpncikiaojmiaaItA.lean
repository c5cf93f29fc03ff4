/- The program's iterator over the acts of one transaction: its contract. -/
import Derived.RangeFuncNested
import Derived.RangeFuncBound
import Derived.RangeFuncCalls
import Derived.RangeFuncLeaves
import Derived.RangeFuncBox
import Derived.Shelf.Abstract
import Derived.WalkKit
import Derived.OwnWalkIn
import Derived.TacticsInMore
import Derived.LoopNIn
import Derived.LoopIn
import Derived.Test.YtlpncikiaojmiaaAcB
import Derived.Test.YtlpncikiaojmiaaWrM
namespace Go.Proofs.Ytlpncikiaojmiaa
open Go.RowKit Go.Shelf

attribute [local go_sem] Oper.semAt_some

/-- Acts that are read, their Answers named; behind the last one acts that are none. -/
def AcV (w : World) (a : Option Addr) (n : Nat) (sv : Nat → Value) (ts : List Ch.Ac) : Prop :=
  ts.length = n ∧ (∀ i, i < n → ∃ b off, a = some ⟨b, off, none⟩ ∧ w.cell? ⟨b, off + i * 6, none⟩ = some (.int .i64 (Ch.acAt ts i).tx) ∧ w.cell? ⟨b, off + i * 6 + 1, none⟩ = some (.int .i64 (Ch.acAt ts i).k) ∧ w.cell? ⟨b, off + i * 6 + 2, none⟩ = some (.int .i64 (Ch.acAt ts i).a) ∧ w.cell? ⟨b, off + i * 6 + 3, none⟩ = some (.int .i64 (Ch.acAt ts i).b) ∧ w.cell? ⟨b, off + i * 6 + 4, none⟩ = some (.int .i64 (Ch.acAt ts i).v) ∧ w.cell? ⟨b, off + i * 6 + 5, none⟩ = some (sv i)) ∧
    ∀ i, ∃ an nn cn, sv i = .slice an nn cn ∧ CellsAt w an (nn * 1) (icells (Ch.acAt ts i).an) ∧ nn ≤ 9223372036854775807
theorem AcV.below {w w' : World} {a : Option Addr} {n : Nat} {sv : Nat → Value} {ts : List Ch.Ac} (h : AcV w a n sv ts) (hb : Below w.heap.size w w') : AcV w' a n sv ts := by
  obtain ⟨h1, h2, h3⟩ := h
  refine ⟨h1, fun i hi => ?_, fun i => ?_⟩
  · obtain ⟨b, off, ha, c0, c1, c2, c3, c4, c5⟩ := h2 i hi
    exact ⟨b, off, ha, keep_cell hb c0, keep_cell hb c1, keep_cell hb c2, keep_cell hb c3, keep_cell hb c4, keep_cell hb c5⟩
  · obtain ⟨an, nn, cn, e, c, m⟩ := h3 i
    exact ⟨an, nn, cn, e, c.below hb, m⟩
theorem AcAt.named {w : World} {a : Option Addr} {n : Nat} {ts : List Ch.Ac} (h : AcAt w a n ts) : ∃ sv, AcV w a n sv ts := by
  have key : ∀ i, ∃ x : Value, (i < n → ∃ b off, a = some ⟨b, off, none⟩ ∧ w.cell? ⟨b, off + i * 6, none⟩ = some (.int .i64 (Ch.acAt ts i).tx) ∧ w.cell? ⟨b, off + i * 6 + 1, none⟩ = some (.int .i64 (Ch.acAt ts i).k) ∧ w.cell? ⟨b, off + i * 6 + 2, none⟩ = some (.int .i64 (Ch.acAt ts i).a) ∧ w.cell? ⟨b, off + i * 6 + 3, none⟩ = some (.int .i64 (Ch.acAt ts i).b) ∧ w.cell? ⟨b, off + i * 6 + 4, none⟩ = some (.int .i64 (Ch.acAt ts i).v) ∧ w.cell? ⟨b, off + i * 6 + 5, none⟩ = some x) ∧
      ∃ an nn cn, x = .slice an nn cn ∧ CellsAt w an (nn * 1) (icells (Ch.acAt ts i).an) ∧ nn ≤ 9223372036854775807 := by
    intro i
    by_cases hi : i < n
    · obtain ⟨b, off, an, nn, cn, ha, c0, c1, c2, c3, c4, c5, c6, c7⟩ := h.act hi
      exact ⟨.slice an nn cn, fun _ => ⟨b, off, ha, c0, c1, c2, c3, c4, c5⟩, an, nn, cn, rfl, c6, c7⟩
    · have e : Ch.acAt ts i = Ch.Ac.zero := by
        have := h.1
        simp [Ch.acAt, List.getD, List.getElem?_eq_none (show ts.length ≤ i by omega)]
      rw [e]
      exact ⟨.slice none 0 0, fun h => absurd h hi, none, 0, 0, rfl, ⟨rfl, fun h => absurd h (by simp)⟩, by decide⟩
  exact ⟨fun i => (key i).choose, h.1, fun i hi => (key i).choose_spec.1 hi, fun i => (key i).choose_spec.2⟩

/-- What a round is handed. -/
abbrev encA (ts : List Ch.Ac) (sv : Nat → Value) (i : Nat) : Array Value := #[.agg #[.int .i64 (Ch.acAt ts i).tx, .int .i64 (Ch.acAt ts i).k, .int .i64 (Ch.acAt ts i).a, .int .i64 (Ch.acAt ts i).b, .int .i64 (Ch.acAt ts i).v, sv i]]

/-- What a round that goes on keeps: what lay below, and the iterator's own boxes. -/
def KpA (n₀ Bn Bm : Nat) (W W' : World) : Prop := Below n₀ W W' ∧ (∀ v, W.cell? ⟨Bn, 0, none⟩ = some v → W'.cell? ⟨Bn, 0, none⟩ = some v) ∧ (∀ v, W.cell? ⟨Bm, 0, none⟩ = some v → W'.cell? ⟨Bm, 0, none⟩ = some v)
theorem KpA.t {n₀ Bn Bm : Nat} {A B C : World} (h : KpA n₀ Bn Bm A B) (k : KpA n₀ Bn Bm B C) : KpA n₀ Bn Bm A C := ⟨h.1.trans k.1, fun v hv => k.2.1 v (h.2.1 v hv), fun v hv => k.2.2 v (h.2.2 v hv)⟩
theorem cell_putObj {W : World} {l b : Nat} {o o' : Obj} {v : Value} (ho : W.heap[l]? = some o) (hc : o.isCells = false) (hv : W.cell? ⟨b, 0, none⟩ = some v) : (W.putObj l o').cell? ⟨b, 0, none⟩ = some v := by
  by_cases e : b = l
  · subst e
    exfalso
    unfold World.cell? at hv
    simp only [ho] at hv
    cases o <;> simp [Obj.isCells] at hc hv
  · have : (W.putObj l o').heap[b]? = W.heap[b]? := World.putObj_heap_other e
    unfold World.cell? at hv ⊢
    simp only [this]
    exact hv
theorem KpA.b {n₀ Bn Bm : Nat} {w : World} (hm : n₀ ≤ w.heap.size) (W : World) (l : Nat) (o o' : Obj) (hl : w.heap.size ≤ l) (ho : W.heap[l]? = some o) (hc : o.isCells = false) (hw : o.isWalk = false) : KpA n₀ Bn Bm W (W.putObj l o') :=
  ⟨belowK_b (w := w) hm W l o o' hl ho hc hw, fun _ hv => cell_putObj ho hc hv, fun _ hv => cell_putObj ho hc hv⟩

theorem grown_of_belowA {A B : World} (h : Below A.heap.size A B) : A.grownBy B none := ⟨h.os, h.tape, h.output, h.size, fun k hk _ => h.block k hk⟩

theorem actsOf_any (a : Option Addr) (n cap : Nat) (txn : Int) (w : World) :
    Calls Try.prog 41 #[.slice a n cap, .int .i64 txn] w fun e w' => e = .returned (.func (.func 72) #[] #[.pointer (some ⟨w.heap.size, 0, none⟩), .pointer (some ⟨w.heap.size + 1, 0, none⟩)]) ∧ w' = (w.alloc (.cells #[.slice a n cap] 32)).alloc (.cells #[.int .i64 txn] 2) := by
  have hmf : ∀ (fn : Fn) (first cap : Array Value) (w : World), (Instr.makeFunc fn first cap).run Try.prog w = .ok (.func fn first cap) w := fun _ _ _ _ => rfl
  go_enter Try.func41, Try.ntmps41
  go_wp2
  go_ret
  exact ⟨rfl, rfl⟩

set_option maxRecDepth 100000 in
set_option maxHeartbeats 2000000 in
theorem acts1_in (m l Bn Bm : Nat) (hm : 1 ≤ m) (a : Option Addr) (n cap : Nat) (txn : Int) (sv : Nat → Value) (ts : List Ch.Ac) (w0 : World) (h : AcV w0 a n sv ts) (hn : n ≤ 1048576) (J Jx : List Nat → World → Prop) (B0 : Nat) (hJ : AbidesFrom B0 J)
    (hY : ∀ pre x W, J pre W → pre.length < (Ch.actsOf ts txn n).length → YieldAt Fence.wide (m - 1) Try.prog l (encA ts sv x) W fun e W' =>
      (e = .returned (.bool true) ∧ J (pre ++ [x]) W' ∧ KpA w0.heap.size Bn Bm W W') ∨ (e = .returned (.bool false) ∧ Jx (pre ++ [x]) W'))
    (W : World) (hBn : W.cell? ⟨Bn, 0, none⟩ = some (.slice a n cap)) (hBm : W.cell? ⟨Bm, 0, none⟩ = some (.int .i64 txn)) (hW : Below w0.heap.size w0 W) (h0 : J [] W) :
    CallsIn Fence.wide m Try.prog 72 #[.func (.yield l) #[] #[], .pointer (some ⟨Bn, 0, none⟩), .pointer (some ⟨Bm, 0, none⟩)] W fun e W' => (∃ v, e = .returned v) ∧
      ((∃ ys, ys = Ch.actsOf ts txn n ∧ J ys W') ∨ (∃ pre, True ∧ Jx pre W')) := by
  refine callsIn_of_wp Try.func72 rfl trivial ?_ rfl
  simp only [Try.ntmps72, List.size_toArray, List.length_cons, List.length_nil, Nat.reduceAdd, Nat.reduceSub, Array.replicate_succ, Array.replicate_zero, List.push_toArray, List.append_toArray, List.nil_append, List.cons_append]
  have hbn := lt_of_cell hBn
  have hbm := lt_of_cell hBm
  gi_wp2
  gi_loopw [8] (fun i wr => ∃ k : Nat, k ≤ n ∧ i = .int .i64 (k : Int) ∧ J (Ch.actsOf ts txn k) wr ∧ Below w0.heap.size w0 wr ∧ wr.cell? ⟨Bn, 0, none⟩ = some (.slice a n cap) ∧ wr.cell? ⟨Bm, 0, none⟩ = some (.int .i64 txn))
    (fun i _ => n - (intOf i).toNat)
  case atStart =>
    exact ⟨0, Nat.zero_le _, rfl, h0, hW, hBn, hBm⟩
  case round =>
    clear hbn hbm hBn hBm
    obtain ⟨k, hk, rfl, hJs, hB, hcn, hcm⟩ := hrel
    by_cases hlt : k < n
    · obtain ⟨b, off, rfl, c0, c1, c2, c3, c4, c5⟩ := (h.below hB).2.1 k hlt
      have HN := hid (Ch.actsOf_next ts txn k)
      have HLn : Hid (((Ch.acAt ts k).tx == txn) = true → (Ch.actsOf ts txn k).length < (Ch.actsOf ts txn n).length) := by
        intro he
        have e1 := Ch.actsOf_next ts txn k
        rw [if_pos he] at e1
        have mono : ∀ p q, p ≤ q → (Ch.actsOf ts txn p).length ≤ (Ch.actsOf ts txn q).length := by
          intro p q hpq
          induction hpq with
          | refl => exact Nat.le_refl _
          | step _ ih => rw [Ch.actsOf_next, List.length_append]; omega
        have := mono (k + 1) n hlt
        rw [e1, List.length_append] at this
        simp at this
        omega
      have hbl := lt_of_cell c0
      have hbm := lt_of_cell hcm
      have hYk := fun W hW hl => hY (Ch.actsOf ts txn k) k W hW hl
      dsimp only [encA] at hYk
      have HJ2 := fun (o : Obj) => hJ _ _ _ none hJs (grown_of_belowA ((Below.refl wr.heap.size wr).alloc (Nat.le_refl _) o)) (fun r e => by cases e)
      have hcm' := fun (o : Obj) => keep_cell ((Below.refl wr.heap.size wr).alloc (Nat.le_refl _) o) hcm
      have hcn' := fun (o : Obj) => keep_cell ((Below.refl wr.heap.size wr).alloc (Nat.le_refl _) o) hcn
      have hB' := fun (o : Obj) => hB.alloc hB.size o
      clear hY
      obtain ⟨ai, ni, ci, hsv, _, _⟩ := h.2.2 k
      rw [hsv] at c5 hYk
      generalize Ch.acAt ts k = t at *
      obtain ⟨tx, kd, p, q, v, an⟩ := t
      simp only at c0 c1 c2 c3 c4 HN HLn hYk
      by_cases he : (tx == txn) = true
      · have hlen := HLn.out he
        rw [he] at HN
        have hY2 := hYk _ (HJ2 (.cells #[.int .i64 tx, .int .i64 kd, .int .i64 p, .int .i64 q, .int .i64 v, .slice ai ni ci] 68)) hlen
        obtain ⟨fn, tmps, assign, body, hy, hR⟩ := hY2
        clear hYk
        gi_wp2
        refine hR.mono ?_
        rintro e W3 (⟨rfl, hJ3, hk3⟩ | ⟨rfl, hJx3⟩)
        · have hB3 := (hB' (.cells #[.int .i64 tx, .int .i64 kd, .int .i64 p, .int .i64 q, .int .i64 v, .slice ai ni ci] 68)).trans hk3.1
          have hcn3 := hk3.2.1 _ (hcn' _)
          have hcm3 := hk3.2.2 _ (hcm' _)
          clear hR hy
          gi_wp2
          go_roundw
          case rel => exact ⟨k + 1, by omega, by go_num, by rw [HN.out]; exact hJ3, hB3, hcn3, hcm3⟩
          case measure => simp [intOf]; omega
        · clear hR hy
          gi_wp2
          refine bodyPost_ret (results_none rfl _ _ _) rfl ?_
          exact ⟨⟨_, rfl⟩, .inr ⟨_, trivial, hJx3⟩⟩
      · have he' : (tx == txn) = false := by simpa using he
        rw [he'] at HN
        have hJ3 := HJ2 (.cells #[.int .i64 tx, .int .i64 kd, .int .i64 p, .int .i64 q, .int .i64 v, .slice ai ni ci] 68)
        have hB3 := hB' (.cells #[.int .i64 tx, .int .i64 kd, .int .i64 p, .int .i64 q, .int .i64 v, .slice ai ni ci] 68)
        have hcn3 := hcn' (.cells #[.int .i64 tx, .int .i64 kd, .int .i64 p, .int .i64 q, .int .i64 v, .slice ai ni ci] 68)
        have hcm3 := hcm' (.cells #[.int .i64 tx, .int .i64 kd, .int .i64 p, .int .i64 q, .int .i64 v, .slice ai ni ci] 68)
        clear hYk HJ2 hcn' hcm' hB' HLn he
        gi_wp2
        refine ⟨fun _ h => (by cases h), ?_⟩
        gi_wp2
        go_roundw
        case rel => exact ⟨k + 1, by omega, by go_num, by rw [HN.out]; simpa using hJ3, hB3, hcn3, hcm3⟩
        case measure => simp [intOf]; omega
    · obtain rfl : k = n := by omega
      gi_wp2
      refine bodyPost_end (results_none rfl _ _ _) rfl ?_
      exact ⟨⟨_, rfl⟩, .inl ⟨_, rfl, hJs⟩⟩

/-- THE CONTRACT of the value that actsOf hands back. -/
theorem acts_stops (m Bn Bm : Nat) (hm : 1 ≤ m) (a : Option Addr) (n cap : Nat) (txn : Int) (sv : Nat → Value) (ts : List Ch.Ac) (w0 w : World) (h : AcV w0 a n sv ts) (hn : n ≤ 1048576)
    (hW0 : Below w0.heap.size w0 w) (hc : w.cell? ⟨Bn, 0, none⟩ = some (.slice a n cap)) (hd : w.cell? ⟨Bm, 0, none⟩ = some (.int .i64 txn)) :
    SeqStopsK Fence.wide m Try.prog 72 #[.pointer (some ⟨Bn, 0, none⟩), .pointer (some ⟨Bm, 0, none⟩)] (encA ts sv) (KpA w0.heap.size Bn Bm) (fun ys => ys = Ch.actsOf ts txn n) (fun _ => True) (Ch.actsOf ts txn n).length w := fun l J Jx W hW hJ _ hY h0 =>
  acts1_in m l Bn Bm hm a n cap txn sv ts w0 h hn J Jx _ hJ hY W (keep_cell hW hc) (keep_cell hW hd) (hW0.trans (hW.mono hW0.size)) h0
end Go.Proofs.Ytlpncikiaojmiaa
