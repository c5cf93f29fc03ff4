/- Several texts in one: SeqV, CouV, ReaV, RcvW. -/
import Derived.RangeFuncNested
import Derived.RangeFuncBound
import Derived.RangeFuncCalls
import Derived.RangeFuncLeaves
import Derived.Shelf.Abstract
import Derived.WalkKit
import Derived.OwnWalkIn
import Derived.TacticsInMore
import Derived.LoopNIn
import Derived.LoopIn
import Derived.Test.YtoijjjckdggglaaGreatMz4
import Derived.RangeFuncBox
import Derived.Test.YtoijjjckdggglaaGreatMz3


/- The program's iterator over records: its contract. -/
namespace Go.Proofs.YtoijjjckdggglaaGreat
open Go.RowKit Go.Shelf

attribute [local go_sem] Oper.semAt_some

/-- What a round is handed. -/
abbrev encR (x : Int × Ch.Rec) : Array Value := #[.int .i64 x.1, .agg #[.int .i64 x.2.kd, .int .i64 x.2.tx, .int .i64 x.2.ky, .bool x.2.hd, .int .i64 x.2.ol, .bool x.2.hs, .int .i64 x.2.nw]]
/-- Each record with the place behind its bytes. -/
def Ch.ends : Nat → List Ch.Rec → List (Int × Ch.Rec)
  | _, [] => []
  | k, r :: rs => (((k + r.len : Nat) : Int), r) :: Ch.ends (k + r.len) rs
theorem Ch.ends_snoc (k : Nat) (rs : List Ch.Rec) (r : Ch.Rec) : Ch.ends k (rs ++ [r]) = Ch.ends k rs ++ [(((k + Ch.lenOf rs + r.len : Nat) : Int), r)] := by
  induction rs generalizing k with
  | nil => simp [Ch.ends, Ch.lenOf]
  | cons q rs ih =>
    simp only [List.cons_append, Ch.ends, ih, Ch.lenOf_cons]
    simp [Nat.add_assoc]
theorem Ch.ends_len (k : Nat) (rs : List Ch.Rec) : (Ch.ends k rs).length = rs.length := by
  induction rs generalizing k with
  | nil => rfl
  | cons q rs ih => simp [Ch.ends, ih]
theorem Ch.ends_snd (k : Nat) (rs : List Ch.Rec) : (Ch.ends k rs).map (·.2) = rs := by
  induction rs generalizing k with
  | nil => rfl
  | cons q rs ih => simp [Ch.ends, ih]

/-- What a round that goes on keeps: what lay below, and the iterator's own box. -/
def KpB (n₀ Bn : Nat) (W W' : World) : Prop := Below n₀ W W' ∧ ∀ v, W.cell? ⟨Bn, 0, none⟩ = some v → W'.cell? ⟨Bn, 0, none⟩ = some v
theorem KpB.t {n₀ Bn : Nat} {A B C : World} (h : KpB n₀ Bn A B) (k : KpB n₀ Bn B C) : KpB n₀ Bn A C := ⟨h.1.trans k.1, fun v hv => k.2 v (h.2 v hv)⟩
theorem KpB.b {n₀ Bn : Nat} {w : World} (hm : n₀ ≤ w.heap.size) (W : World) (l : Nat) (o o' : Obj) (hl : w.heap.size ≤ l) (ho : W.heap[l]? = some o) (hc : o.isCells = false) (hw : o.isWalk = false) : KpB n₀ Bn W (W.putObj l o') := by
  refine ⟨belowK_b (w := w) hm W l o o' hl ho hc hw, fun v hv => ?_⟩
  by_cases e : Bn = l
  · subst e
    exfalso
    unfold World.cell? at hv
    simp only [ho] at hv
    cases o <;> simp [Obj.isCells] at hc hv
  · have : (W.putObj l o').heap[Bn]? = W.heap[Bn]? := World.putObj_heap_other e
    unfold World.cell? at hv ⊢
    simp only [this]
    exact hv

theorem grown_of_below {A B : World} (h : Below A.heap.size A B) : A.grownBy B none := ⟨h.os, h.tape, h.output, h.size, fun k hk _ => h.block k hk⟩

theorem recsOf_any (a : Option Addr) (n cap : Nat) (w : World) :
    Calls Tryz.prog 30 #[.slice a n cap] w fun e w' => e = .returned (.func (.func 48) #[] #[.pointer (some ⟨w.heap.size, 0, none⟩)]) ∧ w' = w.alloc (.cells #[.slice a n cap] 23) := by
  go_enter Tryz.func30, Tryz.ntmps30
  go_wp2
  go_ret
  exact ⟨rfl, rfl⟩

set_option maxRecDepth 100000 in
set_option maxHeartbeats 2000000 in
theorem recs1_in (m l Bn : Nat) (hm : 1 ≤ m) (a : Option Addr) (n cap : Nat) (zs : List Int) (w0 : World) (h : CellsAt w0 a n (bts zs)) (hb : IsB zs) (hn : n ≤ 1048576) (hcap : n ≤ cap) (J Jx : List (Int × Ch.Rec) → World → Prop) (B0 : Nat) (hJ : AbidesFrom B0 J)
    (hY : ∀ pre x W, J pre W → pre.length < (Ch.reads zs).length → YieldAt Fence.wide (m - 1) Tryz.prog l (encR x) W fun e W' =>
      (e = .returned (.bool true) ∧ J (pre ++ [x]) W' ∧ KpB w0.heap.size Bn W W') ∨ (e = .returned (.bool false) ∧ Jx (pre ++ [x]) W'))
    (W : World) (hBn : W.cell? ⟨Bn, 0, none⟩ = some (.slice a n cap)) (hW : Below w0.heap.size w0 W) (h0 : J [] W) :
    CallsIn Fence.wide m Tryz.prog 48 #[.func (.yield l) #[] #[], .pointer (some ⟨Bn, 0, none⟩)] W fun e W' => (∃ v, e = .returned v) ∧
      ((∃ ys, ys = Ch.ends 0 (Ch.reads zs) ∧ J ys W') ∨ (∃ pre, True ∧ Jx pre W')) := by
  have HL := h.len
  refine callsIn_of_wp Tryz.func48 rfl trivial ?_ rfl
  simp only [Tryz.ntmps48, List.size_toArray, List.length_cons, List.length_nil, Nat.reduceAdd, Nat.reduceSub, Array.replicate_succ, Array.replicate_zero, List.push_toArray, List.append_toArray, List.nil_append, List.cons_append]
  gi_wp2
  gi_loopw [3] (fun i wr => ∃ (pre : List Ch.Rec) (k : Nat), i = .int .i64 (k : Int) ∧ Hid (k ≤ n ∧ Ch.reads zs = pre ++ Ch.reads (zs.drop k) ∧ Ch.lenOf pre = k) ∧ J (Ch.ends 0 pre) wr ∧ Below w0.heap.size w0 wr ∧ wr.cell? ⟨Bn, 0, none⟩ = some (.slice a n cap))
    (fun i _ => n - (intOf i).toNat)
  case atStart =>
    exact ⟨[], 0, rfl, ⟨Nat.zero_le _, rfl, rfl⟩, h0, hW, hBn⟩
  case round =>
    obtain ⟨pre, k, rfl, HI, hJs, hB, hc⟩ := hrel
    have hk : Hid (k ≤ n) := HI.out.1
    have hsl := fun W => slice_from a n cap k hk.out W
    have hone := firstRec_any (cutAt a cap k) (n - k) (cap - k) (zs.drop k) wr ((h.below hB).drop hk.out hcap) (isB_drop hb k) (by omega) (by omega)
    generalize cutAt a cap k = a' at *
    gi_wp2_with fail
    refine ⟨trivial, (callsIn_wide.2 hone).mono ?_⟩
    clear hone hsl
    rintro e w1 ⟨rfl, b1⟩
    have hJ1 := hJ _ _ _ none hJs (grown_of_below b1) (fun r e => by cases e)
    have hB1 := hB.trans (b1.mono hB.size)
    have hc1 := keep_cell b1 hc
    have hz := hB1.size
    clear b1 hJs hB hc
    rcases Ch.firstV_cases (zs.drop k) with ⟨hf, he⟩ | ⟨r, hf, he⟩
    · rw [he]
      simp only [recV, Ch.Rec.zero]
      have HE : Hid (pre = Ch.reads zs) := by
        have e1 := HI.out.2.1
        rw [Ch.reads_none hf, List.append_nil] at e1
        exact e1.symm
      clear he hf
      gi_wp2
      refine ⟨fun _ h => (by cases h), ?_⟩
      gi_wp2
      refine bodyPost_ret (results_none rfl _ _ _) rfl ?_
      refine ⟨⟨_, rfl⟩, .inl ⟨_, by rw [← HE.out], ?_⟩⟩
      exact hJ _ _ _ none hJ1 (grown_of_below ((Below.refl _ _).alloc (Nat.le_refl _) _)) (fun r e => by cases e)
    · have hl := Ch.first_len hf
      have hlk : Hid (k + r.len ≤ n) := by
        have := HL.out
        simp at hl
        show _ ≤ _
        have := hk.out
        omega
      have HN : Hid (Ch.reads zs = (pre ++ [r]) ++ Ch.reads (zs.drop (k + r.len)) ∧ Ch.lenOf (pre ++ [r]) = k + r.len ∧ Ch.ends 0 (pre ++ [r]) = Ch.ends 0 pre ++ [(((k + r.len : Nat) : Int), r)]) := by
        refine ⟨?_, ?_, ?_⟩
        · rw [HI.out.2.1, Ch.reads_some hf, List.drop_drop]
          simp
        · rw [Ch.lenOf_append, HI.out.2.2]
          rfl
        · rw [Ch.ends_snoc, HI.out.2.2, Nat.zero_add]
      have hlen : Hid ((Ch.ends 0 pre).length < (Ch.reads zs).length) := by
        show _ < _
        rw [Ch.ends_len, HI.out.2.1, Ch.reads_some hf]
        simp
      rw [he]
      clear he hf
      have hr5 := r.len_bd
      obtain ⟨kd, tx, ky, hd, ol, hs, nw⟩ := r
      simp only [recV]
      have hJ2 : J (Ch.ends 0 pre) (w1.alloc (recO kd tx ky hd ol hs nw)) := hJ _ _ _ none hJ1 (grown_of_below ((Below.refl _ _).alloc (Nat.le_refl _) _)) (fun r e => by cases e)
      have hY2 := hY (Ch.ends 0 pre) (((k + Ch.Rec.len ⟨kd, tx, ky, hd, ol, hs, nw⟩ : Nat) : Int), ⟨kd, tx, ky, hd, ol, hs, nw⟩) _ hJ2 hlen.out
      clear hY hJ2 hJ1
      generalize hlen : Ch.Rec.len ⟨kd, tx, ky, hd, ol, hs, nw⟩ = len at *
      obtain ⟨fn, tmps, assign, body, hy, hR⟩ := hY2
      dsimp only [encR] at hy
      have hne : ((len : Int) == 0) = false := by simp; omega
      have hlk1 := hlk.out
      have hcast : ((k + len : Nat) : Int) = (k : Int) + (len : Int) := by omega
      rw [hcast] at hy hR
      gi_wp2
      refine hR.mono ?_
      rintro e W3 (⟨rfl, hJ3, hk3⟩ | ⟨rfl, hJx3⟩)
      · have hB3 := (hB1.alloc hz (recO kd tx ky hd ol hs nw)).trans hk3.1
        have hc3 := hk3.2 _ (keep_cell ((Below.refl _ _).alloc (Nat.le_refl _) _) hc1)
        clear hR hy
        gi_wp2
        go_roundw
        case rel =>
          refine ⟨pre ++ [⟨kd, tx, ky, hd, ol, hs, nw⟩], k + len, by go_num, ⟨hlk1, HN.out.1, HN.out.2.1⟩, ?_, hB3, hc3⟩
          rw [HN.out.2.2, hcast]
          exact hJ3
        case measure => simp [intOf]; omega
      · clear hR hy
        gi_wp2
        refine bodyPost_ret (results_none rfl _ _ _) rfl ?_
        exact ⟨⟨_, rfl⟩, .inr ⟨_, trivial, hJx3⟩⟩

/-- THE CONTRACT of the value that recsOf hands back. -/
theorem recs_stops (m Bn : Nat) (hm : 1 ≤ m) (a : Option Addr) (n cap : Nat) (zs : List Int) (w0 w : World) (h : CellsAt w0 a n (bts zs)) (hb : IsB zs) (hn : n ≤ 1048576) (hcap : n ≤ cap)
    (hW0 : Below w0.heap.size w0 w) (hc : w.cell? ⟨Bn, 0, none⟩ = some (.slice a n cap)) :
    SeqStopsK Fence.wide m Tryz.prog 48 #[.pointer (some ⟨Bn, 0, none⟩)] encR (KpB w0.heap.size Bn) (fun ys => ys = Ch.ends 0 (Ch.reads zs)) (fun _ => True) (Ch.reads zs).length w := fun l J Jx W hW hJ _ hY h0 =>
  recs1_in m l Bn hm a n cap zs w0 h hb hn hcap J Jx _ hJ hY W (keep_cell hW hc) (hW0.trans (hW.mono hW0.size)) h0
end Go.Proofs.YtoijjjckdggglaaGreat


/- The count of records, by the iterator. -/
namespace Go.Proofs.YtoijjjckdggglaaGreat
open Go.RowKit Go.Shelf

attribute [local go_sem] Oper.semAt_some

end Go.Proofs.YtoijjjckdggglaaGreat


/- ReadRecs of the program, by the iterator. -/
namespace Go.Proofs.YtoijjjckdggglaaGreat
open Go.RowKit Go.Shelf

attribute [local go_sem] Oper.semAt_some

theorem wpListIn_app7 {F : Fence} {d : Nat} {ops : Array Oper} {rest : List Oper} {o : Oper} {a : Act} {w : World} {Q : Exit → Act → World → Prop} (s x : Operand)
    (B : Nat) (v : Value) (n : Nat) (rs : List Ch.Rec) (r : Ch.Rec) (hn : n ≤ 1048576)
    (ho : o.op = .call { callee := .builtin .append, args := #[s, x], argTypes := #[39, 39] }) (hgd : o.guard = none)
    (hs : a.eval s = v) (hx : ∃ h c t, a.eval x = .slice (some ⟨h, 0, none⟩) 1 c ∧ w.heap[h]? = some (.cells (c7 r).toArray t (0, 0)))
    (hown : w.ownsRow B 54 7 v n (rc7 rs)) (hbase : B ≤ w.heap.size)
    (hK : ∀ g' cp' w', w'.ownsRow B 54 7 (.slice (some ⟨g', 0, none⟩) (n + 1) cp') (n + 1) (rc7 (rs ++ [r])) → Below B w w' → KeepsOthers w w' → wpListIn F d Tryz.prog ops Q rest (a.put o.dst (.slice (some ⟨g', 0, none⟩) (n + 1) cp')) w') :
    wpListIn F d Tryz.prog ops Q (o :: rest) a w := by
  obtain ⟨h, c, t, hx, hblk⟩ := hx
  obtain ⟨i0, hi, hz0, hz1, hz2⟩ := info_parts Tryz.info54
  refine wpListIn_append_own w hgd s x 39 ho B 54 i0 _ 7 56 Tryz.underlying39 hi hz0 hz1 hz2 rfl (by omega) v n (rc7 rs) hs hown ⟨h, 0, none⟩ 1 c (c7 r) hx rfl (World.news_of_block hblk) (by simp [c7, Value.oneCell']) (by unfold maxLen; omega) (by omega) hbase ?_
  intro v' w' hown' hgrow _
  rw [← rc7_snoc] at hown'
  obtain ⟨g', cap', rfl⟩ := ownsRow_succ hown'
  refine hK g' cap' w' hown' ((Below.refl _ _).grown hgrow hbase (fun k hk => ?_)) (KeepsOthers.of_grownBy hgrow (fun j ob hj hob => ?_))
  · rcases hown.2 with ⟨hv, _⟩ | ⟨g, cap', cur, hv, hb, _⟩
    · subst hv; simp [Value.ownBlock] at hk
    · subst hv; simp [Value.ownBlock] at hk; omega
  · rcases hown.2 with ⟨hv, _⟩ | ⟨g, cap', cur, hv, hb, hh, _⟩
    · subst hv; simp [Value.ownBlock] at hj
    · subst hv
      simp [Value.ownBlock] at hj
      subst hj
      rw [hh] at hob
      cases hob
      rfl

theorem row3 {W : World} {g : Nat} {t : TypeId} {u0 u1 u2 : Value} (h : W.heap[g]? = some (.cells #[u0, u1, u2] t (0, 0))) :
    W.cell? ⟨g, 0, none⟩ = some u0 ∧ W.cell? ⟨g, 1, none⟩ = some u1 ∧ W.cell? ⟨g, 2, none⟩ = some u2 :=
  ⟨cell_of_row _ _ _ _ _ _ h, cell_of_row _ _ _ _ _ _ h, cell_of_row _ _ _ _ _ _ h⟩

/-- How much the records that have come use. -/
def Ch.lastEnd (pre : List (Int × Ch.Rec)) : Int := (pre.getLast?.map (·.1)).getD 0
theorem Ch.lastEnd_snoc (pre : List (Int × Ch.Rec)) (x : Int × Ch.Rec) : Ch.lastEnd (pre ++ [x]) = x.1 := by simp [Ch.lastEnd]
theorem Ch.lastEnd_ends (rs : List Ch.Rec) : Ch.lastEnd (Ch.ends 0 rs) = Ch.lenOf rs := by
  rcases List.eq_nil_or_concat rs with rfl | ⟨rs, r, rfl⟩
  · rfl
  · rw [List.concat_eq_append, Ch.ends_snoc, Ch.lastEnd_snoc, Ch.lenOf_append]
    simp [Ch.lenOf]

theorem owns_cellsB {W W' : World} {row : Option Nat} {base : Nat} {e : TypeId} {size : Nat} {v : Value} {n : Nat} {xs : List Value} (h : W.ownsRow base e size v n xs) (hg : W.grownBy W' row) (hr : ∀ r, row = some r → ∃ o : Obj, W.heap[r]? = some o ∧ o.isCells = false) : W'.ownsRow base e size v n xs := by
  refine owns_grown h hg (fun g hv hrow => ?_)
  obtain ⟨o, ho, hc⟩ := hr g hrow
  rcases h.2 with ⟨hv', _⟩ | ⟨g', cap', cur, hv', hb, hh, _⟩
  · subst hv'; simp [Value.ownBlock] at hv
  · subst hv'
    simp [Value.ownBlock] at hv
    subst hv
    rw [hh] at ho
    cases ho
    cases hc

theorem block_kept {W W' : World} {row : Option Nat} {g : Nat} {cs : Array Value} {t : TypeId} (h : W.heap[g]? = some (.cells cs t (0, 0))) (hg : W.grownBy W' row) (hr : ∀ r, row = some r → ∃ o : Obj, W.heap[r]? = some o ∧ o.isCells = false) : W'.heap[g]? = some (.cells cs t (0, 0)) := by
  have hlt : g < W.heap.size := (Array.getElem?_eq_some_iff.1 h).1
  rw [hg.block g hlt (fun e => ?_)]
  · exact h
  · obtain ⟨o, ho, hc⟩ := hr g e.symm
    rw [h] at ho
    cases ho
    cases hc

set_option maxHeartbeats 400000 in
theorem implRead_big (a : Option Addr) (n cap : Nat) (w : World) (hn : 4000 < n) (hm : n ≤ 9223372036854775807) :
    Calls Tryz.prog 19 #[.slice a n cap] w fun e w' => e = .returned (.agg #[.int .i64 2, .int .i64 0, .slice none 0 0]) ∧ Below w.heap.size w w' := by
  have i1 : (4000 : Int) < (n : Int) := by omega
  refine (callsIn_wide (n := 6)).1 ?_
  refine callsIn_of_wp_marks Tryz.func19 rfl trivial ?_ rfl
  simp only [Tryz.ntmps19, List.size_toArray, List.length_cons, List.length_nil, Nat.reduceAdd, Nat.reduceSub, Array.replicate_succ, Array.replicate_zero, List.push_toArray, List.append_toArray, List.nil_append, List.cons_append]
  gi_wp2_with fail
  refine ⟨.agg #[.int .i64 2, .int .i64 0, .slice none 0 0], ?_, rfl, (Below.refl _ _).alloc (Nat.le_refl _) _⟩
  simp [results, Tryz.results19, go_sem]

set_option maxRecDepth 100000 in
set_option maxHeartbeats 4000000 in
theorem implRead_ok (a : Option Addr) (n cap : Nat) (zs : List Int) (w : World) (h : CellsAt w a n (bts zs)) (hb : IsB zs) (hn : n ≤ 4000) (hcap : n ≤ cap) :
    Calls Tryz.prog 19 #[.slice a n cap] w fun e w' => ∃ a' c', e = .returned (.agg #[.int .i64 0, .int .i64 (Ch.used zs), .slice a' (Ch.reads zs).length c']) ∧ w'.ownsRow w.heap.size 54 7 (.slice a' (Ch.reads zs).length c') (Ch.reads zs).length (rc7 (Ch.reads zs)) ∧ Below w.heap.size w w' := by
  have hrl : 5 * (Ch.reads zs).length ≤ n := Nat.le_trans (Ch.reads_le zs) (by have := Ch.used_le zs; have := h.len.out; omega)
  have i1 : ¬ (4000 : Int) < (n : Int) := by omega
  refine (callsIn_wide (n := 6)).1 ?_
  refine callsIn_of_wp_marks Tryz.func19 rfl trivial ?_ rfl
  simp only [Tryz.ntmps19, List.size_toArray, List.length_cons, List.length_nil, Nat.reduceAdd, Nat.reduceSub, Array.replicate_succ, Array.replicate_zero, List.push_toArray, List.append_toArray, List.nil_append, List.cons_append]
  gi_wp2_with fail
  refine ⟨trivial, (callsIn_wide.2 (recsOf_any a n cap _)).mono ?_⟩
  rintro e w' ⟨rfl, rfl⟩
  gi_wp2_with fail
  have hB0 : Below w.heap.size w (((w.alloc (.cells #[.int .i64 0, .int .i64 0, .slice none 0 0] 48)).alloc (.cells #[.int .i64 0, .int .i64 0, .slice none 0 0] 48)).alloc (.cells #[.slice a n cap] 23)) := by
    refine Below.alloc (Below.alloc (Below.alloc (Below.refl _ w) (Nat.le_refl _) _) ?_ _) ?_ _
    · simp
    · simp; omega
  have hcB : (((w.alloc (.cells #[.int .i64 0, .int .i64 0, .slice none 0 0] 48)).alloc (.cells #[.int .i64 0, .int .i64 0, .slice none 0 0] 48)).alloc (.cells #[.slice a n cap] 23)).cell? ⟨w.heap.size + 2, 0, none⟩ = some (.slice a n cap) := by
    have := cell_of_row _ (w.heap.size + 2) 0 #[.slice a n cap] 23 (0, 0) (heap_new' (w := (w.alloc (.cells #[.int .i64 0, .int .i64 0, .slice none 0 0] 48)).alloc (.cells #[.int .i64 0, .int .i64 0, .slice none 0 0] 48)) (by simp))
    exact this
  have hR0 : (((w.alloc (.cells #[.int .i64 0, .int .i64 0, .slice none 0 0] 48)).alloc (.cells #[.int .i64 0, .int .i64 0, .slice none 0 0] 48)).alloc (.cells #[.slice a n cap] 23)).heap[w.heap.size]? = some (.cells #[.int .i64 0, .int .i64 0, .slice none 0 0] 48 (0, 0)) := by
    refine (heap_old' ?_).trans ((heap_old' ?_).trans (heap_new' rfl))
    · simp; omega
    · simp
  have hR1 : (((w.alloc (.cells #[.int .i64 0, .int .i64 0, .slice none 0 0] 48)).alloc (.cells #[.int .i64 0, .int .i64 0, .slice none 0 0] 48)).alloc (.cells #[.slice a n cap] 23)).heap[w.heap.size + 1]? = some (.cells #[.int .i64 0, .int .i64 0, .slice none 0 0] 48 (0, 0)) := by
    refine (heap_old' ?_).trans (heap_new' ?_)
    · simp
    · simp
  have hs0 : (((w.alloc (.cells #[.int .i64 0, .int .i64 0, .slice none 0 0] 48)).alloc (.cells #[.int .i64 0, .int .i64 0, .slice none 0 0] 48)).alloc (.cells #[.slice a n cap] 23)).heap.size = w.heap.size + 3 := by simp
  generalize hW0 : (((w.alloc (.cells #[.int .i64 0, .int .i64 0, .slice none 0 0] 48)).alloc (.cells #[.int .i64 0, .int .i64 0, .slice none 0 0] 48)).alloc (.cells #[.slice a n cap] 23)) = W0 at *
  refine wpIn_rangeFunc_ownH rfl (by decide) (gf := 48) (lb := #[.pointer (some ⟨w.heap.size + 2, 0, none⟩)]) rfl trivial (enters_of Tryz.func48 (by kernel_rfl) rfl)
    (recs_stops 5 (w.heap.size + 2) (by decide) a n cap zs w W0 h hb (by omega) hcap hB0 hcB) KpB.t (KpB.b (by omega)) (Below.refl _ _) (fun _ => rfl)
    (fun pre W => (∃ a' c', W.heap[w.heap.size + 1]? = some (.cells #[.int .i64 0, .int .i64 (Ch.lastEnd pre), .slice a' pre.length c'] 48 (0, 0)) ∧ W.ownsRow (w.heap.size + 3) 54 7 (.slice a' pre.length c') pre.length (rc7 (pre.map (·.2)))) ∧ W.heap[w.heap.size]? = some (.cells #[.int .i64 0, .int .i64 0, .slice none 0 0] 48 (0, 0)) ∧ w.heap.size + 3 ≤ W.heap.size ∧ Below w.heap.size w W)
    (fun _ _ _ => False)
    ?hI (fun _ _ _ _ _ hs _ _ => hs)
    ⟨⟨none, 0, hR1, World.ownsRow_nil _ _ _ _⟩, hR0, by omega, hB0⟩
    (fun x a' W => ∃ Bx, w.heap.size + 3 ≤ Bx ∧ W.heap[Bx]? = some (.cells (c7 x.2).toArray 54 (0, 0)) ∧ a' = { tmps := #[.slice a n cap, undef, .pointer (some ⟨w.heap.size, 0, none⟩), .pointer (some ⟨w.heap.size + 1, 0, none⟩), .int .i64 x.1, .pointer (some ⟨Bx, 0, none⟩), .slice a n cap, .int .i64 n, .bool false, undef, .slice a n cap, .func (.func 48) #[] #[.pointer (some ⟨w.heap.size + 2, 0, none⟩)], .int .i64 x.1, .agg #[.int .i64 x.2.kd, .int .i64 x.2.tx, .int .i64 x.2.ky, .bool x.2.hd, .int .i64 x.2.ol, .bool x.2.hs, .int .i64 x.2.nw], undef, undef, undef, undef, undef, undef, undef, undef, undef], defers := [] })
    ?hAx ?assign ?body ?done ?stop
  case hI =>
    rintro s A B row ⟨⟨a', c', hh, ho⟩, hr0, hz, hB⟩ hg hr
    exact ⟨⟨a', c', block_kept hh hg (fun r e => (hr r e).2), owns_cellsB ho hg (fun r e => (hr r e).2)⟩, block_kept hr0 hg (fun r e => (hr r e).2), Nat.le_trans hz hg.size, hB.grown hg hB.size (fun k e => by have := (hr k e).1; omega)⟩
  case hAx =>
    rintro x a' s A B row ⟨Bx, hle, hh, he⟩ hg hr
    exact ⟨Bx, hle, block_kept hh hg (fun r e => (hr r e).2), he⟩
  case assign =>
    rintro l pre x W K ⟨⟨a', c', hh, ho⟩, hr0, hz, hB⟩ hK
    simp only [encR]
    gi_wp2
    refine hK _ _ ((KeepsOthers.alloc _ _).from _) ⟨(Below.refl _ _).alloc (by omega) _, fun v hv => keep_cell ((Below.refl _ _).alloc (Nat.le_refl _) _) hv⟩ ⟨⟨a', c', (heap_old' (by omega)).trans hh, ho.alloc _⟩, (heap_old' (by omega)).trans hr0, by simp; omega, hB.alloc (by omega) _⟩ ⟨W.heap.size, hz, heap_new' rfl, rfl⟩
  case body =>
    rintro l pre x a' W hl ⟨r, hr⟩ ⟨⟨a1, c1, hh, ho⟩, hr0, hz, hB⟩ ⟨Bx, hBx, hX, rfl⟩ hlt
    obtain ⟨x0, x1, x2⟩ := row3 hh
    have f1 := Joins.unfrozen_of_block hh 1
    have f2 := Joins.unfrozen_of_block hh 2
    obtain ⟨y0, y1, y2, y3, y4, y5, y6⟩ := row7 (show W.heap[Bx]? = some (.cells #[.int .i64 x.2.kd, .int .i64 x.2.tx, .int .i64 x.2.ky, .bool x.2.hd, .int .i64 x.2.ol, .bool x.2.hs, .int .i64 x.2.nw] 54 (0, 0)) from hX)
    have ne1 : ¬ Bx = w.heap.size + 1 := by omega
    have ne2 : ¬ w.heap.size + 1 = Bx := by omega
    have hp : pre.length ≤ 1048576 := by omega
    have hx1 : w.heap.size + 1 < W.heap.size := by omega
    have hx2 : Bx < W.heap.size := lt_of_cell y0
    have hhS := Joins.block_setCell (i := 1) hh (.int .i64 x.1)
    simp only [List.setIfInBounds_toArray, List.set_cons_zero, List.set_cons_succ] at hhS
    have hoS : (W.setCell ⟨w.heap.size + 1, 1, none⟩ (.int .i64 x.1)).ownsRow (w.heap.size + 3) 54 7 (.slice a1 pre.length c1) pre.length (rc7 (pre.map (·.2))) := ownsRow_setCell_below ho (by simp) _
    have hzS : (W.setCell ⟨w.heap.size + 1, 1, none⟩ (.int .i64 x.1)).heap.size = W.heap.size := by simp
    have l13 : w.heap.size + 1 < w.heap.size + 3 := by omega
    have l0S : w.heap.size + 1 < (W.setCell ⟨w.heap.size + 1, 1, none⟩ (.int .i64 x.1)).heap.size := by omega
    generalize hpl : pre.length = p at *
    clear hl hr r hX
    gi_wp2_with (gi_at_builtin; go_must (refine wpListIn_app7 (.tmp 17) (.tmp 19) (w.heap.size + 3) (.slice a1 p c1) p (pre.map (·.2)) x.2 hp ?_ ?_ ?_ ?_ ?_ ?_ ?_; exact rfl; exact rfl; exact rfl; (refine ⟨_, _, 54, rfl, ?_⟩; refine heap_new' ?_; (focus (first | rfl | (simp; done)))); exact hoS.alloc _; (focus (simp; omega)); intro g3 c3 w3 own3 b3 k3; have hh3 := (b3.block (w.heap.size + 1) l13).trans ((heap_old' l0S).trans hhS); obtain ⟨z0, z1, z2⟩ := row3 hh3; have g2 := Joins.unfrozen_of_block hh3 2))
    have hz3 := b3.size
    simp at hz3
    have kA : KeepsOthers W w3 := ((KeepsOthers.setCell W ⟨w.heap.size + 1, 1, none⟩ (.int .i64 x.1)).trans (KeepsOthers.alloc _ _)).trans k3
    have bA : Below w.heap.size W w3 := (((Below.refl w.heap.size W).setCell (p := ⟨w.heap.size + 1, 1, none⟩) (by simp) _).alloc (by simp; omega) _).trans (b3.mono (by omega))
    have hhF := Joins.block_setCell (i := 2) hh3 (.slice (some ⟨g3, 0, none⟩) (p + 1) c3)
    simp only [List.setIfInBounds_toArray, List.set_cons_zero, List.set_cons_succ] at hhF
    refine ⟨(kA.trans (KeepsOthers.setCell _ _ _)).from _, ⟨bA.setCell (p := ⟨w.heap.size + 1, 2, none⟩) (by simp) _, fun v hv => ?_⟩, ⟨⟨some ⟨g3, 0, none⟩, c3, ?_, ?_⟩, ?_, by simp; omega, (hB.trans bA).setCell (p := ⟨w.heap.size + 1, 2, none⟩) (by simp) _⟩⟩
    · have lv : w.heap.size + 2 < W.heap.size := by omega
      rw [World.cell?_setCell_other _ _ _ _ (by simp), b3.cell (p := ⟨w.heap.size + 2, 0, none⟩) (by simp)]
      exact keep_cell ((Below.refl _ _).alloc (Nat.le_refl _) _) (by rw [World.cell?_setCell_other _ _ _ _ (by simp)]; exact hv)
    · rw [Ch.lastEnd_snoc]
      simpa [hpl] using hhF
    · have := ownsRow_setCell_below (a := ⟨w.heap.size + 1, 2, none⟩) own3 (by simp) (.slice (some ⟨g3, 0, none⟩) (p + 1) c3)
      simpa [hpl] using this
    · have bX : Below (w.heap.size + 1) W w3 := (((Below.refl (w.heap.size + 1) W).setCell (p := ⟨w.heap.size + 1, 1, none⟩) (Nat.le_refl _) _).alloc (by simp; omega) _).trans (b3.mono (by omega))
      exact ((bX.setCell (p := ⟨w.heap.size + 1, 2, none⟩) (Nat.le_refl _) _).block w.heap.size (by omega)).trans hr0
  case done =>
    rintro D ys W hD rfl ⟨⟨a1, c1, hh, ho⟩, hr0, hz, hB⟩ hK
    rw [Ch.ends_len, Ch.lastEnd_ends] at hh
    rw [Ch.ends_len, Ch.ends_snd] at ho
    obtain ⟨x0, x1, x2⟩ := row3 hh
    obtain ⟨y0, y1, y2⟩ := row3 hr0
    have f0 := Joins.unfrozen_of_block hr0 0
    have f1 := Joins.unfrozen_of_block hr0 1
    have f2 := Joins.unfrozen_of_block hr0 2
    have hu : Hid (Ch.lenOf (Ch.reads zs) = Ch.used zs) := rfl
    generalize hrd : (Ch.reads zs).length = p at *
    have hF := Joins.block_setCell (i := 2) (Joins.block_setCell (i := 1) (Joins.block_setCell (i := 0) hr0 (.int .i64 0)) (.int .i64 (Ch.lenOf (Ch.reads zs)))) (.slice a1 p c1)
    simp only [List.setIfInBounds_toArray, List.set_cons_zero, List.set_cons_succ] at hF
    have hKF := (KeepsOthers.setCell _ ⟨w.heap.size, 2, none⟩ (.slice a1 p c1)).same D _ ((KeepsOthers.setCell _ ⟨w.heap.size, 1, none⟩ (.int .i64 (Ch.lenOf (Ch.reads zs)))).same D _ ((KeepsOthers.setCell W ⟨w.heap.size, 0, none⟩ (.int .i64 0)).same D _ hK rfl) rfl) rfl
    have hoF := ownsRow_setCell_below (a := ⟨w.heap.size, 2, none⟩) (ownsRow_setCell_below (a := ⟨w.heap.size, 1, none⟩) (ownsRow_setCell_below (a := ⟨w.heap.size, 0, none⟩) ho (by simp) (.int .i64 0)) (by simp) (.int .i64 (Ch.lenOf (Ch.reads zs)))) (by simp) (.slice a1 p c1)
    have hBF := ((hB.setCell (p := ⟨w.heap.size, 0, none⟩) (Nat.le_refl _) (.int .i64 0)).setCell (p := ⟨w.heap.size, 1, none⟩) (Nat.le_refl _) (.int .i64 (Ch.lenOf (Ch.reads zs)))).setCell (p := ⟨w.heap.size, 2, none⟩) (Nat.le_refl _) (.slice a1 p c1)
    gi_wp2
    generalize (((W.setCell ⟨w.heap.size, 0, none⟩ (.int .i64 0)).setCell ⟨w.heap.size, 1, none⟩ (.int .i64 (Ch.lenOf (Ch.reads zs)))).setCell ⟨w.heap.size, 2, none⟩ (.slice a1 p c1)) = Wf at *
    have hneD : w.heap.size ≠ D := by omega
    obtain ⟨q0, q1, q2⟩ := row3 ((World.putObj_heap_other hneD).trans hF : (Wf.putObj D (.deferred none)).heap[w.heap.size]? = _)
    refine ⟨by simp, .inl ⟨_, _, rfl, run_takeDeferred hKF, ?_⟩⟩
    refine ⟨.agg #[.int .i64 0, .int .i64 (Ch.lenOf (Ch.reads zs)), .slice a1 p c1], ?_, a1, c1, ?_, ?_, hBF.trans (belowK_b (w := w) (Nat.le_refl _) Wf D _ _ (by omega) hKF rfl rfl)⟩
    · simp [results, Tryz.results19, go_sem, q0, q1, q2]
    · rw [hu.out, hrd]
    · rw [hrd]
      exact owns_base (ownsRow_putObj hoF _ hKF rfl) (by omega)
  case stop =>
    rintro D c pre W _ _ h _
    exact h.elim
end Go.Proofs.YtoijjjckdggglaaGreat


/- RecoverRows of the program and of the model. -/
namespace Go.Proofs.YtoijjjckdggglaaGreat
open Go.RowKit

def Ch.recovR (base : List Ch.Row) (zs : List Int) : Int × List Int × List Ch.Row := if 4000 < zs.length then (2, [], []) else Ch.redoR base (Ch.reads zs)
theorem Ch.recovR_big {base : List Ch.Row} {zs : List Int} (h : 4000 < zs.length) : Ch.recovR base zs = (2, [], []) := if_pos h
theorem Ch.recovR_ok {base : List Ch.Row} {zs : List Int} (h : ¬ 4000 < zs.length) : Ch.recovR base zs = Ch.redoR base (Ch.reads zs) := if_neg h

theorem RedoAt.alloc {w W : World} {e : Ending} {R : Int × List Int × List Ch.Row} {a1 a2 : Option Addr} {m1 c1 m2 c2 : Nat} (h : RedoAt w W e R a1 m1 c1 a2 m2 c2) (o : Obj) : RedoAt w (W.alloc o) e R a1 m1 c1 a2 m2 c2 :=
  ⟨h.ret, h.b1, h.b2, h.o1.alloc _, h.o2.alloc _, h.ap, h.bl.alloc h.bl.size _⟩
theorem redo_three {w W W0 : World} {R : Int × List Int × List Ch.Row} {a3 a4 : Option Addr} {m3 c3 m4 c4 : Nat} {e : Ending} (h : RedoAt W0 W e R a3 m3 c3 a4 m4 c4) (hb : Below w.heap.size w W) (hs : w.heap.size < W0.heap.size) :
    RedoAt w (((W.setCell ⟨w.heap.size, 0, none⟩ (.int .i64 R.1)).setCell ⟨w.heap.size, 1, none⟩ (.slice a3 m3 c3)).setCell ⟨w.heap.size, 2, none⟩ (.slice a4 m4 c4)) (.returned (.agg #[.int .i64 R.1, .slice a3 m3 c3, .slice a4 m4 c4])) R a3 m3 c3 a4 m4 c4 := by
  refine ⟨rfl, h.b1, h.b2, ?_, ?_, h.ap, ?_⟩
  · refine owns_base (base := W0.heap.size) (ownsRow_setCell_below (ownsRow_setCell_below (ownsRow_setCell_below h.o1 ?_ _) ?_ _) ?_ _) (by omega)
    all_goals (show w.heap.size < W0.heap.size; omega)
  · refine owns_base (base := W0.heap.size) (ownsRow_setCell_below (ownsRow_setCell_below (ownsRow_setCell_below h.o2 ?_ _) ?_ _) ?_ _) (by omega)
    all_goals (show w.heap.size < W0.heap.size; omega)
  · exact ((hb.setCell (p := ⟨w.heap.size, 0, none⟩) (Nat.le_refl _) _).setCell (p := ⟨w.heap.size, 1, none⟩) (Nat.le_refl _) _).setCell (p := ⟨w.heap.size, 2, none⟩) (Nat.le_refl _) _

set_option linter.unusedSimpArgs false in
set_option maxRecDepth 20000 in
set_option maxHeartbeats 4000000 in
theorem implRecov_any (a1 : Option Addr) (n1 c1 : Nat) (base : List Ch.Row) (a2 : Option Addr) (n2 c2 : Nat) (zs : List Int) (w : World) (h1 : CellsAt w a1 (n1 * 3) (rcells base)) (h2 : CellsAt w a2 n2 (bts zs)) (hb : IsB zs) (hn1 : n1 ≤ 1048576) (hn2 : n2 ≤ 1048576) (hcap : n2 ≤ c2) :
    Calls Tryz.prog 8 #[.slice a1 n1 c1, .slice a2 n2 c2] w fun e w' => ∃ a3 m3 c3 a4 m4 c4, RedoAt w w' e (Ch.recovR base zs) a3 m3 c3 a4 m4 c4 := by
  have HL := h2.len
  have kA : ∀ o, Below w.heap.size w (w.alloc o) := fun o => (Below.refl _ _).alloc (Nat.le_refl _) o
  by_cases hbig : 4000 < n2
  · have HE := hid (Ch.recovR_big (base := base) (zs := zs) (by have := HL.out; omega))
    rw [HE.out]
    have IR := fun W => implRead_big a2 n2 c2 W hbig (by omega)
    clear HE
    go_enter Tryz.func8, Tryz.ntmps8
    go_wp2_with fail
    refine (IR _).mono ?_
    rintro e w1 ⟨rfl, b1⟩
    have hR := block_belowV b1 (heap_alloc_new w _)
    have b1 := below_box b1
    have lz := (Array.getElem?_eq_some_iff.1 hR).1
    obtain ⟨x0, x1, x2, f0, f1, f2⟩ := row3V hR
    clear IR
    go_wp2
    exact bodyPost_ret (v := .agg #[.int .i64 2, .slice none 0 0, .slice none 0 0]) (by simp [results, Tryz.results8, go_sem, x0, x1, x2, lz]) rfl ⟨none, 0, 0, none, 0, 0, (redo_code b1).alloc _⟩
  · have HE := hid (Ch.recovR_ok (base := base) (zs := zs) (by have := HL.out; omega))
    rw [HE.out]
    have hrl : 5 * (Ch.reads zs).length ≤ n2 := Nat.le_trans (Ch.reads_le zs) (by have := Ch.used_le zs; have := HL.out; omega)
    have IR := fun W hW => implRead_ok a2 n2 c2 zs W hW hb (by omega) hcap
    have IQ := fun (A : Option Addr) (C : Nat) (W : World) hW1 hW2 => implRedo_any a1 n1 c1 base A (Ch.reads zs).length C (Ch.reads zs) W hW1 hW2 hn1 (by omega)
    generalize hRR : Ch.redoR base (Ch.reads zs) = RR at *
    generalize hrd : (Ch.reads zs).length = p at *
    generalize hrs : Ch.reads zs = rs at *
    generalize Ch.used zs = u at *
    clear HE hRR hrs
    go_enter Tryz.func8, Tryz.ntmps8
    go_wp2_with fail
    refine (IR _ (h2.below (kA _))).mono ?_
    rintro e w1 ⟨a', c', rfl, o1, b1⟩
    have hR := block_belowV b1 (heap_alloc_new w _)
    have lz0 := (Array.getElem?_eq_some_iff.1 hR).1
    have b1 := below_box b1
    clear IR
    have k1 : Below w1.heap.size w1 (w1.alloc (.cells #[.int .i64 0, .int .i64 u, .slice a' p c'] 48)) := (Below.refl _ _).alloc (Nat.le_refl _) _
    have o1 := owns_below o1 k1
    have hR := block_belowV k1 hR
    have b1 := b1.trans (k1.mono b1.size)
    have IQ := IQ a' c' _ (h1.below b1) (owns_cells o1)
    go_wp2_with fail
    refine IQ.mono ?_
    rintro e w2 ⟨a3, m3, c3, a4, m4, c4, hra⟩
    clear IQ
    have hR := block_belowV hra.bl hR
    have b2 := b1.trans (hra.bl.mono b1.size)
    have hf := redo_three hra b2 (by simp; omega)
    have hret := hra.ret
    subst hret
    have lz := (Array.getElem?_eq_some_iff.1 hR).1
    obtain ⟨x0, x1, x2, f0, f1, f2⟩ := row3V hR
    clear hra
    go_wp2
    exact bodyPost_ret (v := .agg #[.int .i64 RR.1, .slice a3 m3 c3, .slice a4 m4 c4]) (by simp [results, Tryz.results8, go_sem, x0, x1, x2]) rfl ⟨a3, m3, c3, a4, m4, c4, hf⟩

set_option linter.unusedSimpArgs false in
set_option maxRecDepth 20000 in
set_option maxHeartbeats 4000000 in
theorem specRecov_any (a1 : Option Addr) (n1 c1 : Nat) (base : List Ch.Row) (a2 : Option Addr) (n2 c2 : Nat) (zs : List Int) (w : World) (h1 : CellsAt w a1 (n1 * 3) (rcells base)) (h2 : CellsAt w a2 n2 (bts zs)) (hb : IsB zs) (hn1 : n1 ≤ 1048576) (hn2 : n2 ≤ 1048576) (hcap : n2 ≤ c2) :
    Calls Tryz.prog 5 #[.slice a1 n1 c1, .slice a2 n2 c2] w fun e w' => ∃ a3 m3 c3 a4 m4 c4, RedoAt w w' e (Ch.recovR base zs) a3 m3 c3 a4 m4 c4 := by
  have HL := h2.len
  have kA : ∀ o, Below w.heap.size w (w.alloc o) := fun o => (Below.refl _ _).alloc (Nat.le_refl _) o
  by_cases hbig : 4000 < n2
  · have HE := hid (Ch.recovR_big (base := base) (zs := zs) (by have := HL.out; omega))
    rw [HE.out]
    have i1 : (4000 : Int) < (n2 : Int) := by omega
    obtain ⟨x0, x1, x2, f0, f1, f2⟩ := row3V (heap_alloc_new w (.cells #[.int .i64 0, .slice none 0 0, .slice none 0 0] 28))
    clear HE
    go_enter Tryz.func5, Tryz.ntmps5
    go_wp2
    refine bodyPost_ret (v := .agg #[.int .i64 2, .slice none 0 0, .slice none 0 0]) (by simp [results, Tryz.results5, go_sem]) rfl ⟨none, 0, 0, none, 0, 0, rfl, by omega, by omega, World.ownsRow_nil _ _ _ _, World.ownsRow_nil _ _ _ _, fun g hg => by simp [Value.ownBlock] at hg, kA _⟩
  · have HE := hid (Ch.recovR_ok (base := base) (zs := zs) (by have := HL.out; omega))
    rw [HE.out]
    have i1 : ¬ (4000 : Int) < (n2 : Int) := by omega
    have hrl : 5 * (Ch.reads zs).length ≤ n2 := Nat.le_trans (Ch.reads_le zs) (by have := Ch.used_le zs; have := HL.out; omega)
    have IR := fun W hW => l2Read_any a2 n2 c2 zs W hW hb hn2 hcap
    have IQ := fun (A : Option Addr) (C : Nat) (W : World) hW1 hW2 => specRedo_any a1 n1 c1 base A (Ch.reads zs).length C (Ch.reads zs) W hW1 hW2 hn1 (by omega)
    generalize hRR : Ch.redoR base (Ch.reads zs) = RR at *
    generalize hrd : (Ch.reads zs).length = p at *
    generalize hrs : Ch.reads zs = rs at *
    generalize Ch.used zs = u at *
    clear HE hRR hrs
    go_enter Tryz.func5, Tryz.ntmps5
    go_wp2_with fail
    refine (IR _ (h2.below (kA _))).mono ?_
    rintro e w1 ⟨g', c', rfl, o1, b1⟩
    have hR := block_belowV b1 (heap_alloc_new w _)
    have lz0 := (Array.getElem?_eq_some_iff.1 hR).1
    have b1 := below_box b1
    clear IR
    have IQ := IQ (some ⟨g', 0, none⟩) c' _ (h1.below b1) (owns_cells o1)
    go_wp2_with fail
    refine IQ.mono ?_
    rintro e w2 ⟨a3, m3, c3, a4, m4, c4, hra⟩
    clear IQ
    have hR := block_belowV hra.bl hR
    have b2 := b1.trans (hra.bl.mono b1.size)
    have hf := redo_three hra b2 lz0
    have hret := hra.ret
    subst hret
    have lz := (Array.getElem?_eq_some_iff.1 hR).1
    obtain ⟨x0, x1, x2, f0, f1, f2⟩ := row3V hR
    clear hra
    go_wp2
    exact bodyPost_ret (v := .agg #[.int .i64 RR.1, .slice a3 m3 c3, .slice a4 m4 c4]) (by simp [results, Tryz.results5, go_sem, x0, x1, x2]) rfl ⟨a3, m3, c3, a4, m4, c4, hf⟩
end Go.Proofs.YtoijjjckdggglaaGreat

