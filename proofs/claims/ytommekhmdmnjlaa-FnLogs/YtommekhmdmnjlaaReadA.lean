
/- Records read one behind the other: what both readers lean on; the model's reader. -/
import Derived.Test.YtommekhmdmnjlaaOneS
namespace Go.Proofs.Ytommekhmdmnjlaa
open Go.RowKit

theorem Try.info38 : (Try.prog.info? 38).map (fun i => (i.zero, i.size, i.bytes)) = some (some (.agg #[.int .i64 0, .int .i64 0, .int .i64 0, .bool false, .int .i64 0, .bool false, .int .i64 0]), 7, 56) := by kernel_rfl

/-- Records as values: seven cells each. -/
def c7 (r : Ch.Rec) : List Value := [.int .i64 r.kd, .int .i64 r.tx, .int .i64 r.ky, .bool r.hd, .int .i64 r.ol, .bool r.hs, .int .i64 r.nw]
def rc7 (rs : List Ch.Rec) : List Value := rs.flatMap c7
theorem rc7_len (rs : List Ch.Rec) : (rc7 rs).length = rs.length * 7 := by
  induction rs with
  | nil => rfl
  | cons r rs ih => simp only [rc7, c7, List.flatMap_cons, List.length_append, List.length_cons, List.length_nil] at *; omega
theorem rc7_snoc (rs : List Ch.Rec) (r : Ch.Rec) : rc7 (rs ++ [r]) = rc7 rs ++ c7 r := by simp [rc7]
theorem recV_eq (r : Ch.Rec) : recV r = .agg (c7 r).toArray := rfl

/-- The address behind k bytes. -/
def cutAt (a : Option Addr) (cap k : Nat) : Option Addr := if cap = k then a else a.map (·.add k)
theorem slice_from (a : Option Addr) (n cap k : Nat) (hk : k ≤ n) (w : World) :
    (Instr.slice 22 (.slice a n cap) (some (.int .i64 (k : Int))) none none).run Try.prog w = .ok (.slice (cutAt a cap k) (n - k) (cap - k)) w := by
  have h0 : (0 : Int) ≤ (k : Int) := by omega
  have h1 : (k : Int) ≤ (n : Int) := by omega
  have hu : Try.prog.underlying 22 = some (.slice (Try.prog.elem 22)) := by kernel_rfl
  have he : Try.prog.elem 22 = 5 := by kernel_rfl
  have hs := Try.sizeOf5
  rw [← he] at hs
  unfold cutAt
  rw [run_slice_l (ht := hu) (h0 := h0) (h1 := h1), hs]
  simp [Result.andThen, sliced]
theorem CellsAt.drop {w : World} {a : Option Addr} {n cap k : Nat} {zs : List Int} (h : CellsAt w a n (bts zs)) (hk : k ≤ n) (hcap : n ≤ cap) : CellsAt w (cutAt a cap k) (n - k) (bts (zs.drop k)) := by
  have hl := h.len.out
  refine ⟨by simp [bts]; omega, fun h0 => ?_⟩
  obtain ⟨b, off, rfl, hc⟩ := h.2 (by omega)
  refine ⟨b, off + k, ?_, fun i hi => ?_⟩
  · unfold cutAt
    rw [if_neg (by omega)]
    simp only [Option.map_some, Option.some.injEq]
    unfold Addr.add
    split
    · next h0 => subst h0; rfl
    · rfl
  · rw [Nat.add_assoc, hc (k + i) (by omega)]
    simp [bts, List.getElem?_drop]

theorem wpList_app7 {ops : Array Oper} {rest : List Oper} {o : Oper} {a : Act} {w : World} {Q : Exit → Act → World → Prop} (s x : Operand)
    (B : Nat) (v : Value) (n : Nat) (rs : List Ch.Rec) (r : Ch.Rec) (hn : n ≤ 1048576)
    (ho : o.op = .call { callee := .builtin .append, args := #[s, x], argTypes := #[31, 31] }) (hgd : o.guard = none)
    (hs : a.eval s = v) (hx : ∃ h c t, a.eval x = .slice (some ⟨h, 0, none⟩) 1 c ∧ w.heap[h]? = some (.cells (c7 r).toArray t (0, 0)))
    (hown : w.ownsRow B 38 7 v n (rc7 rs)) (hbase : B ≤ w.heap.size)
    (hK : ∀ g' cp' w', w'.ownsRow B 38 7 (.slice (some ⟨g', 0, none⟩) (n + 1) cp') (n + 1) (rc7 (rs ++ [r])) → Below B w w' → wpList Try.prog ops Q rest (a.put o.dst (.slice (some ⟨g', 0, none⟩) (n + 1) cp')) w') :
    wpList Try.prog ops Q (o :: rest) a w := by
  obtain ⟨h, c, t, hx, hblk⟩ := hx
  obtain ⟨i0, hi, hz0, hz1, hz2⟩ := info_parts Try.info38
  refine wpList_append_lies _ hgd s x 31 ho B 38 i0 _ 7 56 Try.underlying31 hi hz0 hz1 hz2 rfl (by omega) v n (rc7 rs) hs hown ⟨h, 0, none⟩ 1 c (c7 r) hx rfl (World.news_of_block hblk) (by simp [c7, Value.oneCell']) (by omega) (by unfold maxLen; omega) (by omega) hbase _ rfl ?_
  intro g' cp' w' hown' hgrow hat hlt
  rw [← rc7_snoc] at hown'
  refine hK g' cp' w' hown' ((Below.refl _ _).grown hgrow hbase (fun k hk => ?_))
  rcases hown.2 with ⟨hv, _⟩ | ⟨g, cap', cur, hv, hb, _⟩
  · subst hv; simp [Value.ownBlock] at hk
  · subst hv; simp [Value.ownBlock] at hk; omega

theorem Ch.firstV_cases (zs : List Int) : (Ch.first zs = none ∧ Ch.firstV zs = (Ch.Rec.zero, 0)) ∨ (∃ r, Ch.first zs = some r ∧ Ch.firstV zs = (r, r.len)) := by
  unfold Ch.firstV
  cases h : Ch.first zs with
  | none => exact .inl ⟨rfl, rfl⟩
  | some r => exact .inr ⟨r, rfl, rfl⟩

set_option maxRecDepth 10000 in
set_option maxHeartbeats 2000000 in
theorem l2Read_any (a : Option Addr) (n cap : Nat) (zs : List Int) (w : World) (h : CellsAt w a n (bts zs)) (hb : IsB zs) (hn : n ≤ 1048576) (hcap : n ≤ cap) :
    Calls Try.prog 40 #[.slice a n cap] w fun e w' => ∃ g c, e = .returned (.tuple #[.slice (some ⟨g, 0, none⟩) (Ch.reads zs).length c, .int .i64 (Ch.used zs)]) ∧ w'.ownsRow w.heap.size 38 7 (.slice (some ⟨g, 0, none⟩) (Ch.reads zs).length c) (Ch.reads zs).length (rc7 (Ch.reads zs)) ∧ Below w.heap.size w w' := by
  have HL := h.len
  go_enter Try.func40, Try.ntmps40
  go_wp2
  go_loopw [4, 5] (fun v i wr => ∃ (pre : List Ch.Rec) (k m g c : Nat), i = .int .i64 (k : Int) ∧ v = .slice (some ⟨g, 0, none⟩) m c ∧ Hid (m = pre.length ∧ k ≤ n ∧ Ch.reads zs = pre ++ Ch.reads (zs.drop k) ∧ Ch.lenOf pre = k) ∧ wr.ownsRow w.heap.size 38 7 (.slice (some ⟨g, 0, none⟩) m c) m (rc7 pre) ∧ Below w.heap.size w wr) (fun _ i _ => n - (intOf i).toNat)
  case atStart =>
    refine ⟨[], 0, 0, w.heap.size, 0, rfl, rfl, ⟨rfl, Nat.zero_le _, rfl, rfl⟩, ?_, (Below.refl _ _).alloc (Nat.le_refl _) _⟩
    exact World.ownsRow_lit w #[] 0 (Nat.le_refl _) (by unfold maxLen; omega) rfl
  case round =>
    obtain ⟨pre, k, m, g, c, rfl, rfl, HI, own, hB⟩ := hrel
    have hk : Hid (k ≤ n) := HI.out.2.1
    have hsl := fun W => slice_from a n cap k hk.out W
    have hone := l2One_any (cutAt a cap k) (n - k) (cap - k) (zs.drop k) wr ((h.below hB).drop hk.out hcap) (isB_drop hb k) (by omega) (by omega)
    generalize cutAt a cap k = a' at *
    go_wp2_with fail
    refine hone.mono ?_
    clear hone hsl
    rintro e w1 ⟨rfl, b1⟩
    have hz1 := b1.size
    have hB1 := hB.trans (b1.mono hB.size)
    have own1 := owns_below own b1
    have hzB := hB.size
    clear b1 own
    rcases Ch.firstV_cases (zs.drop k) with ⟨hf, he⟩ | ⟨r, hf, he⟩
    · rw [he]
      simp only [recV, Ch.Rec.zero]
      have HE : Hid (pre = Ch.reads zs ∧ Ch.used zs = k) := by
        have e1 := HI.out.2.2.1
        rw [Ch.reads_none hf, List.append_nil] at e1
        refine ⟨e1.symm, ?_⟩
        unfold Ch.used
        rw [e1]
        exact HI.out.2.2.2
      clear he hf
      go_wp2
      go_ret2
      obtain ⟨h1, h2⟩ := HE.out
      refine ⟨g, c, ?_, ?_, hB1.alloc (by omega) _⟩
      · rw [h2, ← h1, ← HI.out.1]
        rfl
      · rw [← h1, ← HI.out.1]
        exact own1.alloc _
    · have hl := Ch.first_len hf
      have hlk : Hid (k + r.len ≤ n) := by
        have := HL.out
        simp at hl
        show _ ≤ _
        have := hk.out
        omega
      have HN : Hid (Ch.reads zs = (pre ++ [r]) ++ Ch.reads (zs.drop (k + r.len)) ∧ Ch.lenOf (pre ++ [r]) = k + r.len) := by
        refine ⟨?_, ?_⟩
        · rw [HI.out.2.2.1, Ch.reads_some hf, List.drop_drop]
          simp
        · rw [Ch.lenOf_append, HI.out.2.2.2]
          rfl
      have hm : Hid (m ≤ 1048576) := by
        have e1 := HI.out.1
        have e2 := HI.out.2.2.2
        have e3 := hk.out
        have : 5 * pre.length ≤ Ch.lenOf pre := by
          generalize pre = rs
          induction rs with
          | nil => simp [Ch.lenOf]
          | cons q rs ih => rw [Ch.lenOf_cons]; have := q.len_bd; simp; omega
        show _ ≤ _
        omega
      rw [he]
      clear he hf
      have hr5 := r.len_bd
      obtain ⟨kd, tx, ky, hd, ol, hs, nw⟩ := r
      simp only [recV]
      generalize hlen : Ch.Rec.len ⟨kd, tx, ky, hd, ol, hs, nw⟩ = len at *
      have hne : ((len : Int) == 0) = false := by simp; omega
      have hlk1 := hlk.out
      go_wp2_with (at_builtin; go_must (refine wpList_app7 (.tmp 20) (.tmp 22) w.heap.size (.slice (some ⟨g, 0, none⟩) m c) m pre ⟨kd, tx, ky, hd, ol, hs, nw⟩ hm.out ?_ ?_ ?_ ?_ ?_ ?_ ?_; exact rfl; exact rfl; exact rfl; (refine ⟨_, _, 38, rfl, ?_⟩; refine heap_new' ?_; (focus (simp; done))); exact (own1.alloc _).alloc _; (focus (simp; omega)); intro g3 c3 w3 own3 b3))
      go_roundw
      case rel =>
        refine ⟨pre ++ [⟨kd, tx, ky, hd, ol, hs, nw⟩], k + len, m + 1, g3, c3, by go_num, rfl, ⟨by simp [HI.out.1], hlk1, HN.out.1, HN.out.2⟩, own3, ((hB1.alloc (by omega) _).alloc (by simp; omega) _).trans b3⟩
      case measure => simp [intOf]; omega
end Go.Proofs.Ytommekhmdmnjlaa
