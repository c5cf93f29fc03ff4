
/- slices.Backward over records: the contract of the function that it hands back. -/
import Derived.RangeFuncNested
import Derived.RangeFuncBound
import Derived.RangeFuncCalls
import Derived.RangeFuncLeaves
import Derived.RangeFuncBox
import Derived.Shelf.Abstract
import Derived.WalkKit
import Derived.OwnWalkIn
import Derived.TacticsInMore
import Derived.LoopNIn
import Derived.LoopIn
import Derived.Test.YtoijjjckdggglaaGreatRdM
import Derived.Test.YtoijjjckdggglaaGreatRvA
namespace Go.Proofs.YtoijjjckdggglaaGreat
open Go.RowKit Go.Shelf

attribute [local go_sem] Oper.semAt_some

/-- A record without a fault, with its place. -/
abbrev FRec := { x : Int × Ch.Rec // x.2.Fit }
/-- What a round is handed. -/
abbrev encB (x : FRec) : Array Value := #[.int .i64 x.1.1, .agg #[.int .i64 x.1.2.kd, .int .i64 x.1.2.tx, .int .i64 x.1.2.ky, .bool x.1.2.hd, .int .i64 x.1.2.ol, .bool x.1.2.hs, .int .i64 x.1.2.nw]]
/-- The records that have come. -/
def recsB (pre : List FRec) : List Ch.Rec := pre.map (fun x => x.1.2)
theorem recsB_snoc (pre : List FRec) (x : FRec) : recsB (pre ++ [x]) = recsB pre ++ [x.1.2] := by simp [recsB]
theorem recsB_len (pre : List FRec) : (recsB pre).length = pre.length := by simp [recsB]

/-- What a round keeps: the records, and the iterator's own box. -/
def KpC (a : Option Addr) (n : Nat) (rs : List Ch.Rec) (Bn : Nat) (W W' : World) : Prop := (CellsAt W a (n * 7) (rc7 rs) → CellsAt W' a (n * 7) (rc7 rs)) ∧ ∀ v, W.cell? ⟨Bn, 0, none⟩ = some v → W'.cell? ⟨Bn, 0, none⟩ = some v
theorem KpC.t {a : Option Addr} {n : Nat} {rs : List Ch.Rec} {Bn : Nat} {A B C : World} (h : KpC a n rs Bn A B) (k : KpC a n rs Bn B C) : KpC a n rs Bn A C := ⟨fun h1 => k.1 (h.1 h1), fun v hv => k.2 v (h.2 v hv)⟩
theorem cell_putObj {W : World} {l : Nat} {o : Obj} (o' : Obj) (ho : W.heap[l]? = some o) (hc : o.isCells = false) {b off : Nat} {v : Value} (hv : W.cell? ⟨b, off, none⟩ = some v) : (W.putObj l o').cell? ⟨b, off, none⟩ = some v := by
  by_cases e : b = l
  · subst e
    exfalso
    unfold World.cell? at hv
    simp only [ho] at hv
    cases o <;> simp [Obj.isCells] at hc hv
  · have : (W.putObj l o').heap[b]? = W.heap[b]? := World.putObj_heap_other e
    unfold World.cell? at hv ⊢
    simp only [this]
    exact hv
theorem cellsAt_of {W W' : World} {a : Option Addr} {m : Nat} {xs : List Value} (h : CellsAt W a m xs) (hk : ∀ b off v, a = some ⟨b, 0, none⟩ ∨ True → W.cell? ⟨b, off, none⟩ = some v → W'.cell? ⟨b, off, none⟩ = some v) : CellsAt W' a m xs := by
  refine ⟨h.1, fun hp => ?_⟩
  obtain ⟨b, off, ha, hc⟩ := h.2 hp
  refine ⟨b, off, ha, fun i hi => ?_⟩
  have := hc i hi
  have hl : i < xs.length := by rw [h.1]; exact hi
  rw [List.getElem?_eq_getElem hl] at this ⊢
  exact hk b (off + i) _ (.inr trivial) this
theorem KpC.b {a : Option Addr} {n : Nat} {rs : List Ch.Rec} {Bn : Nat} (W : World) (l : Nat) (o o' : Obj) (ho : W.heap[l]? = some o) (hc : o.isCells = false) : KpC a n rs Bn W (W.putObj l o') :=
  ⟨fun h => cellsAt_of h (fun _ _ _ _ hv => cell_putObj o' ho hc hv), fun _ hv => cell_putObj o' ho hc hv⟩

theorem backward_any (a : Option Addr) (n cap : Nat) (w : World) :
    Calls Tryz.prog 54 #[.slice a n cap] w fun e w' => e = .returned (.func (.func 74) #[] #[.pointer (some ⟨w.heap.size, 0, none⟩)]) ∧ w' = w.alloc (.cells #[.slice a n cap] 39) := by
  go_enter Tryz.func54, Tryz.ntmps54
  go_wp2
  go_ret
  exact ⟨rfl, rfl⟩

set_option maxRecDepth 100000 in
set_option maxHeartbeats 2000000 in
theorem back1_in (m l Bn : Nat) (hm : 1 ≤ m) (a : Option Addr) (n cap : Nat) (rs : List Ch.Rec) (hn : n ≤ 800) (hf : ∀ k, k < rs.length → (rs.getD k Ch.Rec.zero).fault = 0) (J Jx : List FRec → World → Prop)
    (hY : ∀ pre x W, J pre W → pre.length < rs.length → YieldAt Fence.wide (m - 1) Tryz.prog l (encB x) W fun e W' =>
      (e = .returned (.bool true) ∧ J (pre ++ [x]) W' ∧ KpC a n rs Bn W W') ∨ (e = .returned (.bool false) ∧ Jx (pre ++ [x]) W'))
    (W : World) (hBn : W.cell? ⟨Bn, 0, none⟩ = some (.slice a n cap)) (hW : CellsAt W a (n * 7) (rc7 rs)) (h0 : J [] W) :
    CallsIn Fence.wide m Tryz.prog 74 #[.func (.yield l) #[] #[], .pointer (some ⟨Bn, 0, none⟩)] W fun e W' => (∃ v, e = .returned v) ∧
      ((∃ ys, recsB ys = rs.reverse ∧ J ys W') ∨ (∃ pre, True ∧ Jx pre W')) := by
  have HL := hW.len7
  have HF := hid hf
  clear hf
  refine callsIn_of_wp Tryz.func74 rfl trivial ?_ rfl
  simp only [Tryz.ntmps74, List.size_toArray, List.length_cons, List.length_nil, Nat.reduceAdd, Nat.reduceSub, Array.replicate_succ, Array.replicate_zero, List.push_toArray, List.append_toArray, List.nil_append, List.cons_append]
  gi_wp2
  gi_loopw [3] (fun i wr => ∃ (k : Nat) (pre : List FRec), k ≤ n ∧ i = .int .i64 ((k : Int) - 1) ∧ Hid (recsB pre = (rs.drop k).reverse) ∧ J pre wr ∧ CellsAt wr a (n * 7) (rc7 rs) ∧ wr.cell? ⟨Bn, 0, none⟩ = some (.slice a n cap))
    (fun i _ => (intOf i + 1).toNat)
  case atStart =>
    exact ⟨n, [], Nat.le_refl _, rfl, by show _ = _; rw [HL.out]; simp [recsB], h0, hW, hBn⟩
  case round =>
    clear h0 hW hBn
    obtain ⟨k, pre, hk, rfl, HI, hJs, hC, hc⟩ := hrel
    cases k with
    | zero =>
      have e0 : ((0 : Nat) : Int) - 1 = -1 := rfl
      rw [e0]
      gi_wp2
      refine bodyPost_end (results_none rfl _ _ _) rfl ?_
      exact ⟨⟨_, rfl⟩, .inl ⟨pre, by have := HI.out; simpa using this, hJs⟩⟩
    | succ j =>
      have e1 : ((j + 1 : Nat) : Int) - 1 = (j : Int) := by omega
      rw [e1]
      have hjl : j < rs.length := by have := HL.out; omega
      have HT := hid (Ch.Rec.fit (HF.out j hjl))
      have HD := hid (Ch.drop_rev hjl)
      have hlen : Hid (pre.length < rs.length) := by
        show _ < _
        rw [← recsB_len, HI.out]
        simp
        omega
      obtain ⟨b, off, rfl, q0, q1, q2, q3, q4, q5, q6⟩ := hC.rec (k := j) (by omega)
      have hbl := lt_of_cell q0
      generalize rs.getD j Ch.Rec.zero = r at *
      have hY2 := hY pre ⟨((j : Int), r), HT.out⟩ _ hJs hlen.out
      have HN : Hid (recsB (pre ++ [⟨((j : Int), r), HT.out⟩]) = (rs.drop j).reverse) := by show _ = _; rw [recsB_snoc, HI.out, HD.out]
      generalize hpx : pre ++ [⟨((j : Int), r), HT.out⟩] = pre2 at *
      clear hY hJs HD HI hlen hpx
      obtain ⟨kd, tx, ky, hd, ol, hs, nw⟩ := r
      simp only at q0 q1 q2 q3 q4 q5 q6
      obtain ⟨fn, tmps, assign, body, hy, hR⟩ := hY2
      dsimp only [encB] at hy hR
      have hj0 : (0 : Int) ≤ (j : Int) := by omega
      gi_wp2
      refine hR.mono ?_
      rintro e W3 (⟨rfl, hJ3, hk3⟩ | ⟨rfl, hJx3⟩)
      · have hC3 := hk3.1 hC
        have hc3 := hk3.2 _ hc
        clear hR hy
        gi_wp2
        go_roundw
        case rel => exact ⟨j, pre2, by omega, by go_num, HN.out, hJ3, hC3, hc3⟩
        case measure => simp [intOf]
      · clear hR hy
        gi_wp2
        refine bodyPost_ret (results_none rfl _ _ _) rfl ?_
        exact ⟨⟨_, rfl⟩, .inr ⟨_, trivial, hJx3⟩⟩

/-- THE CONTRACT of the value that Backward hands back. -/
theorem back_stops (m Bn : Nat) (hm : 1 ≤ m) (a : Option Addr) (n cap : Nat) (rs : List Ch.Rec) (w : World) (hn : n ≤ 800) (hf : ∀ k, k < rs.length → (rs.getD k Ch.Rec.zero).fault = 0) (h : CellsAt w a (n * 7) (rc7 rs)) (hc : w.cell? ⟨Bn, 0, none⟩ = some (.slice a n cap)) :
    SeqStopsK Fence.wide m Tryz.prog 74 #[.pointer (some ⟨Bn, 0, none⟩)] encB (KpC a n rs Bn) (fun ys => recsB ys = rs.reverse) (fun _ => True) rs.length w := fun l J Jx W hW _ _ hY h0 =>
  back1_in m l Bn hm a n cap rs hn hf J Jx hY W (keep_cell hW hc) (h.below hW) h0
end Go.Proofs.YtoijjjckdggglaaGreat
