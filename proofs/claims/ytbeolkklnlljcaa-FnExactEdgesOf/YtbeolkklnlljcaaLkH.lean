
/- The program: who is let in; FreeLocks. -/
import Derived.Test.YtbeolkklnlljcaaLkE
import Derived.Test.YtbeolkklnlljcaaLkZ
namespace Go.Proofs.Ytbeolkklnlljcaa
open Go.RowKit

def lenV (v : Value) : Nat := match v with
  | .slice _ m _ => m
  | _ => 0

abbrev OwnO (w : World) (B : Nat) (v : Value) (n : Nat) (ls : List Ch.Lock) (vs : List (Value × Value)) : Prop := OwnK 98 w B v n ls vs
theorem leave_set (t : Int) (B o n cap k : Nat) (ls : List Ch.Lock) (l : Ch.Lock) (vs : List (Value × Value)) (w : World) (own : OwnO w B (.slice (some ⟨o, 0, none⟩) n cap) n (ls.set k l) vs) (hk : k < n) (hB : B ≤ w.heap.size) (h1 : l.hs.length ≤ 1048576) (h2 : l.qs.length ≤ 1048576) :
    Calls Try.prog 80 #[.pointer (some ⟨o, k * 3 + 2, none⟩), .int .i64 t] w fun e w' => e = .returned (.tuple #[]) ∧ ∃ vs', OwnO w' B (.slice (some ⟨o, 0, none⟩) n cap) n (ls.set k ⟨l.r, l.hs, Ch.withoutH l.qs t⟩) vs' ∧ Moved (.slice (some ⟨o, 0, none⟩) n cap) vs vs' w w' := by
  have e : Ch.lkAt (ls.set k l) k = l := by rw [lk_set ls k k l (by have := own.len; simp at this; omega), if_pos rfl]
  have := leave_any t B o n cap k (ls.set k l) vs w own hk hB (by rw [e]; exact h1) (by rw [e]; exact h2)
  rw [e, List.set_set] at this
  exact this
theorem hold_set (t m : Int) (B o n cap k : Nat) (ls : List Ch.Lock) (l : Ch.Lock) (vs : List (Value × Value)) (w : World) (own : OwnO w B (.slice (some ⟨o, 0, none⟩) n cap) n (ls.set k l) vs) (hk : k < n) (hB : B ≤ w.heap.size) (h1 : l.hs.length ≤ 1048576) (h2 : l.qs.length ≤ 1048576) :
    Calls Try.prog 119 #[.pointer (some ⟨o, k * 3, none⟩), .agg #[.int .i64 t, .int .i64 m]] w fun e w' => e = .returned (.tuple #[]) ∧ ∃ vs', OwnO w' B (.slice (some ⟨o, 0, none⟩) n cap) n (ls.set k ⟨l.r, Ch.putH l.hs ⟨t, m⟩, l.qs⟩) vs' ∧ Moved (.slice (some ⟨o, 0, none⟩) n cap) vs vs' w w' := by
  have e : Ch.lkAt (ls.set k l) k = l := by rw [lk_set ls k k l (by have := own.len; simp at this; omega), if_pos rfl]
  have := hold_any t m B o n cap k (ls.set k l) vs w own hk hB (by rw [e]; exact h1) (by rw [e]; exact h2)
  rw [e, List.set_set] at this
  exact this
theorem one_set {w : World} {B n o cap k : Nat} {ls : List Ch.Lock} {l : Ch.Lock} {vs : List (Value × Value)} (h : OwnO w B (.slice (some ⟨o, 0, none⟩) n cap) n (ls.set k l) vs) (hk : k < n) :
    ∃ ah ch aq cq, w.cell? ⟨o, k * 3, none⟩ = some (.int .i64 l.r) ∧ w.cell? ⟨o, k * 3 + 1, none⟩ = some (.slice ah l.hs.length ch) ∧ w.cell? ⟨o, k * 3 + 2, none⟩ = some (.slice aq l.qs.length cq) ∧ CellsAt w ah (l.hs.length * 2) (hcells l.hs) ∧ CellsAt w aq (l.qs.length * 2) (hcells l.qs) ∧ B ≤ o ∧ o < w.heap.size := by
  obtain ⟨ah, ch, aq, cq, hp, c0, c1, c2, f1, f2, o1, o2, ne, nr, ob1, ob2⟩ := h.one hk
  have e : Ch.lkAt (ls.set k l) k = l := by rw [lk_set ls k k l (by have := h.len; simp at this; omega), if_pos rfl]
  rw [e] at c0 c1 c2 o1 o2
  exact ⟨ah, ch, aq, cq, c0, c1, c2, owns_cells o1, owns_cells o2, ob1, ob2⟩

set_option linter.unusedSimpArgs false in
set_option maxRecDepth 20000 in
set_option maxHeartbeats 4000000 in
theorem admit_any (B o n cap k : Nat) (ls : List Ch.Lock) (l : Ch.Lock) (vs : List (Value × Value)) (w : World) (own : OwnO w B (Value.slice (some ⟨o, 0, none⟩) n cap) n (ls.set k l) vs) (hk : k < n) (hB : B ≤ w.heap.size) (hsz : l.hs.length + l.qs.length ≤ 1048576) (htw : Ch.twice l.qs = false) :
    Calls Try.prog 81 #[.pointer (some ⟨o, k * 3, none⟩)] w fun e w' => ∃ a' m c' vs', e = .returned (.slice a' m c') ∧ OwnO w' B (Value.slice (some ⟨o, 0, none⟩) n cap) n (ls.set k ⟨l.r, (Ch.admitL l.hs l.qs).1, (Ch.admitL l.hs l.qs).2.1⟩) vs' ∧ Moved (Value.slice (some ⟨o, 0, none⟩) n cap) vs vs' w w' ∧ CellsAt w' a' (m * 1) (icells (Ch.admitL l.hs l.qs).2.2) ∧ m ≤ l.qs.length := by
  obtain ⟨r, lhs, lqs⟩ := l
  simp only at hsz htw ⊢
  have HT := hid htw
  obtain ⟨i0, hi0, hz0, hz1, hz2⟩ := info_parts Try.info2
  clear htw
  go_enter Try.func81, Try.ntmps81
  go_wp2
  go_loopw [3] (fun q wr => ∃ (hj qj : List Ch.Hold) (m : Nat) (a' : Option Addr) (c' : Nat) (vs' : List (Value × Value)) (pre : List Int), q = .slice a' m c' ∧ OwnO wr B (Value.slice (some ⟨o, 0, none⟩) n cap) n (ls.set k ⟨r, hj, qj⟩) vs' ∧ Moved (Value.slice (some ⟨o, 0, none⟩) n cap) vs vs' w wr ∧ wr.ownsRow w.heap.size 2 1 (.slice a' m c') m (icells pre) ∧ (∀ g, (Value.slice a' m c').ownBlock = some g → g ∉ (Value.slice (some ⟨o, 0, none⟩) n cap).ownBlock.toList ++ vs'.flatMap blks) ∧
      Hid (Ch.admitL lhs lqs = ((Ch.admitL hj qj).1, (Ch.admitL hj qj).2.1, pre ++ (Ch.admitL hj qj).2.2)) ∧ Hid (Ch.twice qj = false) ∧ Hid (hj.length + qj.length ≤ lhs.length + lqs.length) ∧ Hid (m + qj.length = lqs.length)) (fun q _ => lqs.length - lenV q)
  case atStart => exact ⟨lhs, lqs, 0, none, 0, vs, [], rfl, own, Moved.refl _ _ _, World.ownsRow_nil _ _ _ _, fun g hg => by simp [Value.ownBlock] at hg, rfl, HT.out, Nat.le_refl _, Nat.zero_add _⟩
  case round =>
    obtain ⟨hj, qj, m, a', c', vs', pre, rfl, ownJ, mv, oi, hap, HA, HTJ, HSZ, HM⟩ := hrel
    have hBw := Nat.le_trans hB mv.size
    have hszh : hj.length ≤ 1048576 := by have := HSZ.out; omega
    have hszq' : qj.length ≤ 1048576 := by have := HSZ.out; omega
    obtain ⟨ah, ch, aq, cq, c0, c1, c2, h3, h4, ob1, ob2⟩ := one_set ownJ hk
    simp only at c0 c1 c2 h3 h4
    have IH := fun W hW hW' => headFits_any r ah hj.length ch aq qj.length cq hj qj W hW hW' hszh
    cases hf : Ch.headFits hj qj
    all_goals rw [hf] at IH
    · have HE := hid (Ch.admit_no hf)
      go_wp2_with fail
      refine (IH _ h3 h4).mono ?_
      rintro e w2 ⟨rfl, b2⟩
      go_wp2
      go_ret
      have own2 := ownJ.below b2
      have oi2 := owns_below oi b2
      have HA2 := HA.out
      rw [HE.out, List.append_nil] at HA2
      refine ⟨a', m, c', vs', rfl, ?_, mv.trans (Moved.ofBelow b2), ?_, by have := HM.out; omega⟩
      · rw [HA2]; exact own2
      · rw [HA2]; exact owns_cells oi2
    · cases qj with
      | nil => simp [Ch.headFits] at hf
      | cons q0 qj =>
        obtain ⟨ht, hm⟩ := q0
        have HE := hid (Ch.admit_yes hf)
        have HWH := hid (Ch.without_head HTJ.out)
        have HTT := hid (Ch.twice_tail HTJ.out)
        simp only at HWH
        have hszq : (⟨ht, hm⟩ :: qj : List Ch.Hold).length ≤ 1048576 := hszq'
        obtain ⟨qb, qo, rfl, q0, q1⟩ := h4.hold (k := 0) (by simp)
        simp only [Nat.zero_mul, Nat.add_zero, List.getD_cons_zero] at q0 q1
        obtain ⟨nq, HNQ⟩ : ∃ nq, Hid ((⟨ht, hm⟩ :: qj : List Ch.Hold).length = nq) := ⟨_, rfl⟩
        have hnq0 : 0 < nq := by rw [← HNQ.out]; simp
        rw [HNQ.out] at c2 IH h4
        clear hf
        go_wp2_with fail
        refine (IH _ h3 h4).mono ?_
        rintro e w2 ⟨rfl, b2⟩
        have c0' := keep_cell b2 c0
        have c2' := keep_cell b2 c2
        have lo2 := lt_of_cell c0'
        go_wp2_with fail
        refine (head_cons qb qo nq cq ht hm _ hnq0 (keep_cell b2 q0) (keep_cell b2 q1)).mono ?_
        rintro e w3 ⟨rfl, b3⟩
        have b23 := b2.trans (b3.mono b2.size)
        have kD : Below wr.heap.size wr (w3.alloc (.cells #[.int .i64 ht, .int .i64 hm] 120)).drew := (b23.alloc b23.size _).drew
        have ownD := ownJ.below kD
        have hbD : B ≤ (w3.alloc (.cells #[.int .i64 ht, .int .i64 hm] 120)).drew.heap.size := Nat.le_trans hBw kD.size
        have z0 : (w3.alloc (.cells #[.int .i64 ht, .int .i64 hm] 120)).cell? ⟨w3.heap.size, 0, none⟩ = some (.int .i64 ht) := by simp [go_sem]
        have z1 : (w3.alloc (.cells #[.int .i64 ht, .int .i64 hm] 120)).cell? ⟨w3.heap.size, 1, none⟩ = some (.int .i64 hm) := by simp [go_sem]
        have hbxn : w3.heap.size ∉ (Value.slice (some ⟨o, 0, none⟩) n cap).ownBlock.toList ++ vs'.flatMap blks := by
          intro hmem
          rw [List.mem_append] at hmem
          rcases hmem with h1 | h1
          · simp [Value.ownBlock] at h1; have := b23.size; omega
          · obtain ⟨i, q, hq, hgq⟩ := flat_mem h1
            have := (ownJ.bd hq hgq).2; have := b23.size; omega
        have lo3 : o < w3.heap.size := Nat.lt_of_lt_of_le ob2 b23.size
        go_wp2_with fail
        refine wp_region_noPanic ?_
        refine wp_region_held_drew (S := fun W' => W'.cell? ⟨w3.heap.size, 0, none⟩ = some (.int .i64 ht) ∧ W'.cell? ⟨w3.heap.size, 1, none⟩ = some (.int .i64 hm)) (by kernel_rfl) (⟨z0, z1⟩) (fun hH => ?_)
        refine hTake (i := 0) (v := ?_) rfl (by kernel_rfl) (by kernel_rfl) (by kernel_rfl) (by rfl) ?_ hH ?_
        rotate_left
        · intro W hW; (try dsimp only at hW); go_simp <;> with_reducible rfl
        simp only [Act.put, List.setIfInBounds_toArray, List.set_cons_zero, List.set_cons_succ]
        refine hTake (i := 1) (v := ?_) rfl (by kernel_rfl) (by kernel_rfl) (by kernel_rfl) (by rfl) ?_ hH ?_
        rotate_left
        · intro W hW; (try dsimp only at hW); go_simp <;> with_reducible rfl
        simp only [Act.put, List.setIfInBounds_toArray, List.set_cons_zero, List.set_cons_succ]
        refine hTake (i := 2) (v := ?_) rfl (by kernel_rfl) (by kernel_rfl) (by kernel_rfl) (by rfl) ?_ hH ?_
        rotate_left
        · intro W hW; (try dsimp only at hW); go_simp <;> with_reducible rfl
        simp only [Act.put, List.setIfInBounds_toArray, List.set_cons_zero, List.set_cons_succ]
        refine hTake (i := 3) (v := ?_) rfl (by kernel_rfl) (by kernel_rfl) (by kernel_rfl) (by rfl) ?_ hH ?_
        rotate_left
        · intro W hW; (try dsimp only at hW); go_simp <;> with_reducible rfl
        simp only [Act.put, List.setIfInBounds_toArray, List.set_cons_zero, List.set_cons_succ]
        refine hTake (i := 4) (v := ?_) rfl (by kernel_rfl) (by kernel_rfl) (by kernel_rfl) (by rfl) ?_ hH ?_
        rotate_left
        · intro W hW; (try dsimp only at hW); go_simp <;> with_reducible rfl
        simp only [Act.put, List.setIfInBounds_toArray, List.set_cons_zero, List.set_cons_succ]
        refine wpAnyH_ready (rs := [5]) (by kernel_rfl) (by simp) ?_
        refine AllReadyH.cons rfl (fun K hK => ?_) AllReadyH.nil
        go_simp
        refine (leave_set ht B o n cap k ls ⟨r, hj, ⟨ht, hm⟩ :: qj⟩ vs' _ ownD hk hbD hszh hszq).mono ?_
        rintro e w4 ⟨rfl, vs4, own4, mv4⟩
        go_wp2_with fail
        refine hK.out _ _ ?_ (fun hH => ?_)
        · exact ⟨mv4.cell hH.1 hbxn, mv4.cell hH.2 hbxn⟩
        clear hK K
        refine wpAnyH_done (by kernel_rfl) ?_ _
        refine NoPanic.normal ?_
        have z0' := hH.1
        have z1' := hH.2
        have lz4 := lt_of_cell z0'
        have lo4 : o < w4.heap.size := (owns_lt own4.row o rfl).2
        have hszq4 : (Ch.withoutH (⟨ht, hm⟩ :: qj) ht).length ≤ 1048576 := by rw [HWH.out]; simp at hszq; omega
        have hB4 := Nat.le_trans hbD mv4.size
        clear hH
        go_wp2_with fail
        refine (hold_set ht hm B o n cap k ls ⟨r, hj, Ch.withoutH (⟨ht, hm⟩ :: qj) ht⟩ vs4 _ own4 hk hB4 hszh hszq4).mono ?_
        rintro e w5 ⟨rfl, vs5, own5, mv5⟩
        have mvT := ((mv.trans (Moved.ofBelow kD)).trans mv4).trans mv5
        have ⟨oi4, hap4⟩ := mv4.owns (owns_below oi kD) hap
        have ⟨oi5, hap5⟩ := mv5.owns oi4 hap4
        have hbx4 : w3.heap.size ∉ (Value.slice (some ⟨o, 0, none⟩) n cap).ownBlock.toList ++ vs4.flatMap blks := by
          intro hmem
          rw [List.mem_append] at hmem hbxn
          rcases hmem with h1 | h1
          · exact hbxn (.inl h1)
          · rcases mv4.new _ h1 with h2 | h2
            · exact hbxn (.inr h2)
            · simp at h2; omega
        have z5 := mv5.cell z0' hbx4
        have l5 := lt_of_cell z5
        have kN : Below w5.heap.size w5 (w5.alloc (.cells #[.int .i64 ht] 2)) := (Below.refl _ _).alloc (Nat.le_refl _) _
        have oi6 := owns_below oi5 kN
        have hb6 : w.heap.size ≤ (w5.alloc (.cells #[.int .i64 ht] 2)).heap.size := Nat.le_trans mvT.size kN.size
        have hsum : m + 1 ≤ 4194304 := by have := HM.out; simp at this hszq; omega
        go_wp2_with (at_builtin; go_must (refine wpList_appX Try.underlying27 Try.underlying27 hi0 hz0 hz1 hz2 rfl (by omega) (by omega) (.tmp 27) (.tmp 30) ?_ ?_ w.heap.size (.slice a' m c') m (icells pre) _ 1 1 (icells [ht]) ?_ ?_ oi6 (new_int w5 ht 2) (icells_one' [ht]) hsum hb6 ?_; exact rfl; exact rfl; exact rfl; exact rfl; intro a7 c7 w7 own7 gr7 at7))
        go_roundw
        case rel =>
          rw [← icells_append] at own7
          have own6 := own5.below kN
          have hrv : ∀ g, (Value.slice a' m c').ownBlock = some g → g ∉ (Value.slice (some ⟨o, 0, none⟩) n cap).ownBlock.toList ++ vs5.flatMap blks := hap5
          have own7' : OwnO w7 B (Value.slice (some ⟨o, 0, none⟩) n cap) n (ls.set k ⟨r, Ch.putH hj ⟨ht, hm⟩, Ch.withoutH (⟨ht, hm⟩ :: qj) ht⟩) vs5 := by
            refine ⟨own6.len, own6.vlen, owns_grown own6.row gr7 fun g hg e => ?_, fun i q hq => owns_grown (own6.hs i q hq) gr7 fun g hg e => ?_, fun i q hq => owns_grown (own6.qs i q hq) gr7 fun g hg e => ?_, own6.apart⟩
            · exact hrv g e (List.mem_append.2 (.inl (by simp [hg])))
            · exact hrv g e (List.mem_append.2 (.inr (List.mem_flatMap.2 ⟨q, List.mem_of_getElem? hq, by simp [blks, hg]⟩)))
            · exact hrv g e (List.mem_append.2 (.inr (List.mem_flatMap.2 ⟨q, List.mem_of_getElem? hq, by simp [blks, hg]⟩)))
          have mv7 : Moved (Value.slice (some ⟨o, 0, none⟩) n cap) vs vs5 w w7 := by
            refine ⟨gr7.os.trans mvT.os, gr7.tape.trans mvT.tape, gr7.output.trans mvT.output, Nat.le_trans hb6 gr7.size, fun g hg hn => ?_, mvT.new⟩
            refine (gr7.block g (Nat.lt_of_lt_of_le hg hb6) fun e => ?_).trans ((kN.block g (Nat.lt_of_lt_of_le hg mvT.size)).trans (mvT.block g hg hn))
            have := (owns_lt oi g e.symm).1
            omega
          rw [HWH.out] at own7'
          refine ⟨Ch.putH hj ⟨ht, hm⟩, qj, m + 1, a7, c7, vs5, pre ++ [ht], rfl, own7', mv7, own7, fun g hg hmem => ?_, ?_, HTT.out, ?_, ?_⟩
          · rcases at7 g hg with h1 | h1
            · exact hrv g h1 hmem
            · rw [List.mem_append] at hmem
              rcases hmem with h2 | h2
              · have := (owns_lt own5.row g (by simpa using h2)).2; have := kN.size; omega
              · obtain ⟨i, q, hq, hgq⟩ := flat_mem h2
                have := (own5.bd hq hgq).2; have := kN.size; omega
          · show _ = _; rw [HA.out, HE.out]; simp
          · have h1 := HSZ.out; have h2 := Ch.putH_len hj ⟨ht, hm⟩; simp at h1; show _ ≤ _; omega
          · have h1 := HM.out; simp at h1; show _ = _; omega
        case measure => have h1 := HM.out; simp at h1; simp [lenV]; omega

end Go.Proofs.Ytbeolkklnlljcaa
