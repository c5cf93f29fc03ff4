
/- The program's iterator over records: its contract. -/
import Derived.RangeFuncNested
import Derived.RangeFuncBound
import Derived.RangeFuncCalls
import Derived.RangeFuncLeaves
import Derived.Shelf.Abstract
import Derived.WalkKit
import Derived.OwnWalkIn
import Derived.TacticsInMore
import Derived.LoopNIn
import Derived.LoopIn
import Derived.Test.YtommekhmdmnjlaaReadA
namespace Go.Proofs.Ytommekhmdmnjlaa
open Go.RowKit Go.Shelf

attribute [local go_sem] Oper.semAt_some

/-- What a round is handed. -/
abbrev encR (x : Int × Ch.Rec) : Array Value := #[.int .i64 x.1, .agg #[.int .i64 x.2.kd, .int .i64 x.2.tx, .int .i64 x.2.ky, .bool x.2.hd, .int .i64 x.2.ol, .bool x.2.hs, .int .i64 x.2.nw]]
/-- Each record with the place behind its bytes. -/
def Ch.ends : Nat → List Ch.Rec → List (Int × Ch.Rec)
  | _, [] => []
  | k, r :: rs => (((k + r.len : Nat) : Int), r) :: Ch.ends (k + r.len) rs
theorem Ch.ends_snoc (k : Nat) (rs : List Ch.Rec) (r : Ch.Rec) : Ch.ends k (rs ++ [r]) = Ch.ends k rs ++ [(((k + Ch.lenOf rs + r.len : Nat) : Int), r)] := by
  induction rs generalizing k with
  | nil => simp [Ch.ends, Ch.lenOf]
  | cons q rs ih =>
    simp only [List.cons_append, Ch.ends, ih, Ch.lenOf_cons]
    simp [Nat.add_assoc]
theorem Ch.ends_len (k : Nat) (rs : List Ch.Rec) : (Ch.ends k rs).length = rs.length := by
  induction rs generalizing k with
  | nil => rfl
  | cons q rs ih => simp [Ch.ends, ih]
theorem Ch.ends_snd (k : Nat) (rs : List Ch.Rec) : (Ch.ends k rs).map (·.2) = rs := by
  induction rs generalizing k with
  | nil => rfl
  | cons q rs ih => simp [Ch.ends, ih]

/-- What a round that goes on keeps: what lay below, and the iterator's own box. -/
def KpB (n₀ Bn : Nat) (W W' : World) : Prop := Below n₀ W W' ∧ ∀ v, W.cell? ⟨Bn, 0, none⟩ = some v → W'.cell? ⟨Bn, 0, none⟩ = some v
theorem KpB.t {n₀ Bn : Nat} {A B C : World} (h : KpB n₀ Bn A B) (k : KpB n₀ Bn B C) : KpB n₀ Bn A C := ⟨h.1.trans k.1, fun v hv => k.2 v (h.2 v hv)⟩
theorem KpB.b {n₀ Bn : Nat} {w : World} (hm : n₀ ≤ w.heap.size) (W : World) (l : Nat) (o o' : Obj) (hl : w.heap.size ≤ l) (ho : W.heap[l]? = some o) (hc : o.isCells = false) (hw : o.isWalk = false) : KpB n₀ Bn W (W.putObj l o') := by
  refine ⟨belowK_b (w := w) hm W l o o' hl ho hc hw, fun v hv => ?_⟩
  by_cases e : Bn = l
  · subst e
    exfalso
    unfold World.cell? at hv
    simp only [ho] at hv
    cases o <;> simp [Obj.isCells] at hc hv
  · have : (W.putObj l o').heap[Bn]? = W.heap[Bn]? := World.putObj_heap_other e
    unfold World.cell? at hv ⊢
    simp only [this]
    exact hv

theorem grown_of_below {A B : World} (h : Below A.heap.size A B) : A.grownBy B none := ⟨h.os, h.tape, h.output, h.size, fun k hk _ => h.block k hk⟩

theorem recsOf_any (a : Option Addr) (n cap : Nat) (w : World) :
    Calls Try.prog 42 #[.slice a n cap] w fun e w' => e = .returned (.func (.func 59) #[] #[.pointer (some ⟨w.heap.size, 0, none⟩)]) ∧ w' = w.alloc (.cells #[.slice a n cap] 22) := by
  go_enter Try.func42, Try.ntmps42
  go_wp2
  go_ret
  exact ⟨rfl, rfl⟩

set_option maxRecDepth 100000 in
set_option maxHeartbeats 2000000 in
theorem recs1_in (m l Bn : Nat) (hm : 1 ≤ m) (a : Option Addr) (n cap : Nat) (zs : List Int) (w0 : World) (h : CellsAt w0 a n (bts zs)) (hb : IsB zs) (hn : n ≤ 1048576) (hcap : n ≤ cap) (J Jx : List (Int × Ch.Rec) → World → Prop) (B0 : Nat) (hJ : AbidesFrom B0 J)
    (hY : ∀ pre x W, J pre W → pre.length < (Ch.reads zs).length → YieldAt Fence.wide (m - 1) Try.prog l (encR x) W fun e W' =>
      (e = .returned (.bool true) ∧ J (pre ++ [x]) W' ∧ KpB w0.heap.size Bn W W') ∨ (e = .returned (.bool false) ∧ Jx (pre ++ [x]) W'))
    (W : World) (hBn : W.cell? ⟨Bn, 0, none⟩ = some (.slice a n cap)) (hW : Below w0.heap.size w0 W) (h0 : J [] W) :
    CallsIn Fence.wide m Try.prog 59 #[.func (.yield l) #[] #[], .pointer (some ⟨Bn, 0, none⟩)] W fun e W' => (∃ v, e = .returned v) ∧
      ((∃ ys, ys = Ch.ends 0 (Ch.reads zs) ∧ J ys W') ∨ (∃ pre, True ∧ Jx pre W')) := by
  have HL := h.len
  refine callsIn_of_wp Try.func59 rfl trivial ?_ rfl
  simp only [Try.ntmps59, List.size_toArray, List.length_cons, List.length_nil, Nat.reduceAdd, Nat.reduceSub, Array.replicate_succ, Array.replicate_zero, List.push_toArray, List.append_toArray, List.nil_append, List.cons_append]
  gi_wp2
  gi_loopw [3] (fun i wr => ∃ (pre : List Ch.Rec) (k : Nat), i = .int .i64 (k : Int) ∧ Hid (k ≤ n ∧ Ch.reads zs = pre ++ Ch.reads (zs.drop k) ∧ Ch.lenOf pre = k) ∧ J (Ch.ends 0 pre) wr ∧ Below w0.heap.size w0 wr ∧ wr.cell? ⟨Bn, 0, none⟩ = some (.slice a n cap))
    (fun i _ => n - (intOf i).toNat)
  case atStart =>
    exact ⟨[], 0, rfl, ⟨Nat.zero_le _, rfl, rfl⟩, h0, hW, hBn⟩
  case round =>
    obtain ⟨pre, k, rfl, HI, hJs, hB, hc⟩ := hrel
    have hk : Hid (k ≤ n) := HI.out.1
    have hsl := fun W => slice_from a n cap k hk.out W
    have hone := firstRec_any (cutAt a cap k) (n - k) (cap - k) (zs.drop k) wr ((h.below hB).drop hk.out hcap) (isB_drop hb k) (by omega) (by omega)
    generalize cutAt a cap k = a' at *
    gi_wp2_with fail
    refine ⟨trivial, (callsIn_wide.2 hone).mono ?_⟩
    clear hone hsl
    rintro e w1 ⟨rfl, b1⟩
    have hJ1 := hJ _ _ _ none hJs (grown_of_below b1) (fun r e => by cases e)
    have hB1 := hB.trans (b1.mono hB.size)
    have hc1 := keep_cell b1 hc
    have hz := hB1.size
    clear b1 hJs hB hc
    rcases Ch.firstV_cases (zs.drop k) with ⟨hf, he⟩ | ⟨r, hf, he⟩
    · rw [he]
      simp only [recV, Ch.Rec.zero]
      have HE : Hid (pre = Ch.reads zs) := by
        have e1 := HI.out.2.1
        rw [Ch.reads_none hf, List.append_nil] at e1
        exact e1.symm
      clear he hf
      gi_wp2
      refine ⟨fun _ h => (by cases h), ?_⟩
      gi_wp2
      refine bodyPost_ret (results_none rfl _ _ _) rfl ?_
      refine ⟨⟨_, rfl⟩, .inl ⟨_, by rw [← HE.out], ?_⟩⟩
      exact hJ _ _ _ none hJ1 (grown_of_below ((Below.refl _ _).alloc (Nat.le_refl _) _)) (fun r e => by cases e)
    · have hl := Ch.first_len hf
      have hlk : Hid (k + r.len ≤ n) := by
        have := HL.out
        simp at hl
        show _ ≤ _
        have := hk.out
        omega
      have HN : Hid (Ch.reads zs = (pre ++ [r]) ++ Ch.reads (zs.drop (k + r.len)) ∧ Ch.lenOf (pre ++ [r]) = k + r.len ∧ Ch.ends 0 (pre ++ [r]) = Ch.ends 0 pre ++ [(((k + r.len : Nat) : Int), r)]) := by
        refine ⟨?_, ?_, ?_⟩
        · rw [HI.out.2.1, Ch.reads_some hf, List.drop_drop]
          simp
        · rw [Ch.lenOf_append, HI.out.2.2]
          rfl
        · rw [Ch.ends_snoc, HI.out.2.2, Nat.zero_add]
      have hlen : Hid ((Ch.ends 0 pre).length < (Ch.reads zs).length) := by
        show _ < _
        rw [Ch.ends_len, HI.out.2.1, Ch.reads_some hf]
        simp
      rw [he]
      clear he hf
      have hr5 := r.len_bd
      obtain ⟨kd, tx, ky, hd, ol, hs, nw⟩ := r
      simp only [recV]
      have hJ2 : J (Ch.ends 0 pre) (w1.alloc (recO kd tx ky hd ol hs nw)) := hJ _ _ _ none hJ1 (grown_of_below ((Below.refl _ _).alloc (Nat.le_refl _) _)) (fun r e => by cases e)
      have hY2 := hY (Ch.ends 0 pre) (((k + Ch.Rec.len ⟨kd, tx, ky, hd, ol, hs, nw⟩ : Nat) : Int), ⟨kd, tx, ky, hd, ol, hs, nw⟩) _ hJ2 hlen.out
      clear hY hJ2 hJ1
      generalize hlen : Ch.Rec.len ⟨kd, tx, ky, hd, ol, hs, nw⟩ = len at *
      obtain ⟨fn, tmps, assign, body, hy, hR⟩ := hY2
      dsimp only [encR] at hy
      have hne : ((len : Int) == 0) = false := by simp; omega
      have hlk1 := hlk.out
      have hcast : ((k + len : Nat) : Int) = (k : Int) + (len : Int) := by omega
      rw [hcast] at hy hR
      gi_wp2
      refine hR.mono ?_
      rintro e W3 (⟨rfl, hJ3, hk3⟩ | ⟨rfl, hJx3⟩)
      · have hB3 := (hB1.alloc hz (recO kd tx ky hd ol hs nw)).trans hk3.1
        have hc3 := hk3.2 _ (keep_cell ((Below.refl _ _).alloc (Nat.le_refl _) _) hc1)
        clear hR hy
        gi_wp2
        go_roundw
        case rel =>
          refine ⟨pre ++ [⟨kd, tx, ky, hd, ol, hs, nw⟩], k + len, by go_num, ⟨hlk1, HN.out.1, HN.out.2.1⟩, ?_, hB3, hc3⟩
          rw [HN.out.2.2, hcast]
          exact hJ3
        case measure => simp [intOf]; omega
      · clear hR hy
        gi_wp2
        refine bodyPost_ret (results_none rfl _ _ _) rfl ?_
        exact ⟨⟨_, rfl⟩, .inr ⟨_, trivial, hJx3⟩⟩

/-- THE CONTRACT of the value that recsOf hands back. -/
theorem recs_stops (m Bn : Nat) (hm : 1 ≤ m) (a : Option Addr) (n cap : Nat) (zs : List Int) (w0 w : World) (h : CellsAt w0 a n (bts zs)) (hb : IsB zs) (hn : n ≤ 1048576) (hcap : n ≤ cap)
    (hW0 : Below w0.heap.size w0 w) (hc : w.cell? ⟨Bn, 0, none⟩ = some (.slice a n cap)) :
    SeqStopsK Fence.wide m Try.prog 59 #[.pointer (some ⟨Bn, 0, none⟩)] encR (KpB w0.heap.size Bn) (fun ys => ys = Ch.ends 0 (Ch.reads zs)) (fun _ => True) (Ch.reads zs).length w := fun l J Jx W hW hJ _ hY h0 =>
  recs1_in m l Bn hm a n cap zs w0 h hb hn hcap J Jx _ hJ hY W (keep_cell hW hc) (hW0.trans (hW.mono hW0.size)) h0
end Go.Proofs.Ytommekhmdmnjlaa
