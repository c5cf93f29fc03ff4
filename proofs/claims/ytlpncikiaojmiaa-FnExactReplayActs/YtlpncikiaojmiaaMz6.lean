/- Several texts in one: AcW, AcK. -/
import Derived.Test.YtlpncikiaojmiaaMz4
import Derived.Test.YtlpncikiaojmiaaIntS

/- Walks of the laws' functions on acts: sizes, copies, comparisons. -/
namespace Go.Proofs.Ytlpncikiaojmiaa
open Go.RowKit

theorem szInts_any (a : Option Addr) (n cap L : Nat) (w : World) (hL : L ≤ 1048576) (hm : n ≤ 9223372036854775807) :
    Calls Try.prog 65 #[.slice a n cap, .int .i64 L] w fun e w' => e = .returned (.int .i64 (if n ≤ L then (L : Int) - n else -1)) ∧ w' = w := by
  by_cases h : n ≤ L
  · rw [if_pos h]
    go_enter Try.func65, Try.ntmps65
    go_wp2
    go_ret
    exact ⟨rfl, rfl⟩
  · rw [if_neg h]
    have h' : L < n := by omega
    clear h
    go_enter Try.func65, Try.ntmps65
    go_wp2
    go_ret
    exact ⟨rfl, rfl⟩

theorem szAct_any (a : Option Addr) (n cap L : Nat) (tx k p q v : Int) (w : World) (hL : L ≤ 1048576) (hm : n ≤ 9223372036854775807) :
    Calls Try.prog 33 #[.agg #[.int .i64 tx, .int .i64 k, .int .i64 p, .int .i64 q, .int .i64 v, .slice a n cap], .int .i64 L] w fun e w' => e = .returned (.int .i64 (if n ≤ L then (L : Int) - n else -1)) ∧ Below w.heap.size w w' := by
  by_cases h : n ≤ L
  · go_enter Try.func33, Try.ntmps33
    go_wp2_with fail
    refine (szInts_any a n cap L _ hL hm).mono ?_
    rintro e w1 ⟨rfl, rfl⟩
    rw [if_pos h]
    go_wp2
    go_ret
    exact ⟨rfl, (Below.refl _ _).alloc (Nat.le_refl _) _⟩
  · go_enter Try.func33, Try.ntmps33
    go_wp2_with fail
    refine (szInts_any a n cap L _ hL hm).mono ?_
    rintro e w1 ⟨rfl, rfl⟩
    rw [if_neg h]
    go_wp2
    go_ret
    exact ⟨rfl, (Below.refl _ _).alloc (Nat.le_refl _) _⟩

/-- What is left; -1: they are too big. -/
def Ch.acLeft (L : Nat) (ls : List Ch.Ac) : Int := if Ch.acSize ls ≤ L then (L : Int) - (Ch.acSize ls : Int) else -1
theorem Ch.acLeft_big {L : Nat} {ls : List Ch.Ac} (h : L < Ch.acSize ls) : -1 = Ch.acLeft L ls := by
  rw [Ch.acLeft, if_neg (by omega)]

set_option maxHeartbeats 800000 in
theorem szActS_any (a : Option Addr) (n cap N : Nat) (ls : List Ch.Ac) (w : World) (h : AcAt w a n ls) (hN : N ≤ 1048576) (hm : n ≤ 9223372036854775807) :
    Calls Try.prog 8 #[.slice a n cap, .int .i64 N] w fun e w' => e = .returned (.int .i64 (Ch.acLeft N ls)) ∧ Below w.heap.size w w' := by
  have HL := h.len
  by_cases hn : N < n
  · go_enter Try.func8, Try.ntmps8
    go_wp2
    go_ret
    exact ⟨ret_int (Ch.acLeft_big (by unfold Ch.acSize; have := HL.out; omega)), Below.refl _ _⟩
  have hn' : n ≤ N := by omega
  clear hn
  go_enter Try.func8, Try.ntmps8
  go_wp2
  go_loopw [1, 5] (fun q i wr => ∃ k L : Nat, k ≤ n ∧ L ≤ N ∧ i = .int .i64 k ∧ q = .int .i64 L ∧ Hid (L + n + ((ls.take k).map (·.an.length)).sum = N) ∧ Below w.heap.size w wr) (fun _ i _ => n - (intOf i).toNat)
  case atStart => exact ⟨0, N - n, Nat.zero_le _, by omega, rfl, by go_num, (by show _ = _; simp; omega), Below.refl _ _⟩
  case round =>
    obtain ⟨k, L, hk, hL, rfl, rfl, HS, hB⟩ := hrel
    by_cases hlt : k < n
    · have HT := hid (Ch.ac_take ls k (by have := HL.out; omega))
      have HE := hid (Ch.ac_le ls (k + 1))
      obtain ⟨b, off, ai, ni, ci, rfl, hc0, hc1, hc2, hc3, hc4, hc5, hr, hni⟩ := (h.below hB).act hlt
      have HR := hr.ilen
      have hL' : L ≤ 1048576 := by omega
      generalize Ch.acAt ls k = l at *
      obtain ⟨tx, kd, p, q, v, an⟩ := l
      simp only at hc0 hc1 hc2 hc3 hc4 hr HT HR
      by_cases hle : ni ≤ L
      · go_wp2_with fail
        refine (szAct_any ai ni ci L _ _ _ _ _ _ hL' hni).mono ?_
        rintro e w1 ⟨rfl, b1⟩
        have hB1 := hB.trans (b1.mono hB.size)
        rw [if_pos hle]
        obtain ⟨M, rfl⟩ : ∃ M, L = ni + M := ⟨L - ni, by omega⟩
        rw [show ((ni + M : Nat) : Int) - (ni : Int) = (M : Int) by omega]
        clear hle
        go_wp2
        go_roundw
        case rel => exact ⟨k + 1, M, by omega, by omega, by go_num, rfl, (by have h1 := HS.out; have h2 := HT.out; have h3 := HR.out; show _ = _; omega), hB1⟩
        case measure => simp [intOf]; omega
      · go_wp2_with fail
        refine (szAct_any ai ni ci L _ _ _ _ _ _ hL' hni).mono ?_
        rintro e w1 ⟨rfl, b1⟩
        have hB1 := hB.trans (b1.mono hB.size)
        rw [if_neg hle]
        go_wp2
        go_ret
        exact ⟨ret_int (Ch.acLeft_big (by unfold Ch.acSize; have h0 := HL.out; have h1 := HS.out; have h2 := HT.out; have h3 := HR.out; have h4 := HE.out; omega)), hB1⟩
    · obtain rfl : k = n := by omega
      go_wp2
      go_ret
      refine ⟨ret_int ?_, hB⟩
      have h0 := HL.out
      have h1 := HS.out
      rw [List.take_of_length_le (by omega)] at h1
      rw [Ch.acLeft, if_pos (by unfold Ch.acSize; omega)]
      unfold Ch.acSize
      omega

theorem Try.info68 : (Try.prog.info? 68).map (fun i => (i.zero, i.size, i.bytes)) = some (some (.agg #[.int .i64 0, .int .i64 0, .int .i64 0, .int .i64 0, .int .i64 0, .slice none 0 0]), 6, 64) := by kernel_rfl

theorem made_acts {w : World} {B n : Nat} {v : Value} (h : w.ownsRow B 68 6 v n (madeCells (Value.agg #[.int .i64 0, .int .i64 0, .int .i64 0, .int .i64 0, .int .i64 0, .slice none 0 0]).cells (n * 6)).toList) : OwnAc w B v n (List.replicate n (.slice none 0 0)) (List.replicate n Ch.Ac.zero) := by
  have hx : ∀ (i : Nat) (x : Value), (List.replicate n (Value.slice none 0 0))[i]? = some x → x = .slice none 0 0 := by
    intro i x hi
    rw [List.getElem?_replicate] at hi
    split at hi
    · cases hi; rfl
    · cases hi
  have hz : ∀ i, Ch.acAt (List.replicate n Ch.Ac.zero) i = Ch.Ac.zero := by
    intro i
    unfold Ch.acAt
    by_cases hi : i < n
    · simp [List.getD, hi]
    · simp [List.getD, hi]
  refine ⟨by simp, by simp, ⟨_, h, fun i j hi hj => ?_⟩, fun i hi => ⟨.slice none 0 0, by simp [hi], ?_⟩, ?_, ?_⟩
  · rw [hz i]
    have e2 : (List.replicate n (Value.slice none 0 0)).getD i (.slice none 0 0) = .slice none 0 0 := by simp [List.getD, hi]
    rw [e2]
    have hlt : i * 6 + j < n * 6 := by omega
    have hm : (i * 6 + j) % 6 = j := by omega
    have e : (madeCells (Value.agg #[.int .i64 0, .int .i64 0, .int .i64 0, .int .i64 0, .int .i64 0, .slice none 0 0]).cells (n * 6)).toList[i * 6 + j]? = some (#[Value.int .i64 0, .int .i64 0, .int .i64 0, .int .i64 0, .int .i64 0, .slice none 0 0].getD ((i * 6 + j) % 6) default) := by
      simp [madeCells, hlt, Value.cells]
    rw [e, hm]
    match j, hj with
    | 0, _ => rfl
    | 1, _ => rfl
    | 2, _ => rfl
    | 3, _ => rfl
    | 4, _ => rfl
    | 5, _ => rfl
  · rw [hz i]
    exact World.ownsRow_nil _ _ _ _
  · intro i j x y g _ hi hj hg
    rw [hx i x hi] at hg
    simp [Value.ownBlock] at hg
  · intro i x g hi _ hg
    rw [hx i x hi] at hg
    simp [Value.ownBlock] at hg

set_option linter.unusedSimpArgs false in
set_option maxHeartbeats 800000 in
theorem toAct_any (tx k p q v : Int) (a : Option Addr) (n cap : Nat) (zs : List Int) (w : World) (h : CellsAt w a (n * 1) (icells zs)) (hn : n ≤ 1048576) :
    Calls Try.prog 38 #[.agg #[.int .i64 tx, .int .i64 k, .int .i64 p, .int .i64 q, .int .i64 v, .slice a n cap]] w fun e w' => ∃ g, e = .returned (.agg #[.int .i64 tx, .int .i64 k, .int .i64 p, .int .i64 q, .int .i64 v, .slice (some ⟨g, 0, none⟩) n n]) ∧ w'.ownsRow w.heap.size 2 1 (.slice (some ⟨g, 0, none⟩) n n) n (icells zs) ∧ Below w.heap.size w w' := by
  go_enter Try.func38, Try.ntmps38
  go_wp2_with fail
  refine (toOp_any _ _ _ _ _).mono ?_
  rintro e w1 ⟨rfl, b1⟩
  obtain ⟨cA, fA⟩ := bcell b1
  have bA : Below w.heap.size w w1 := by
    refine Below.trans ?_ (b1.mono (by simp; omega))
    refine Below.alloc (Below.alloc (Below.alloc (Below.refl _ w) (Nat.le_refl _) _) ?_ _) ?_ _
    · simp
    · simp; omega
  have hs1 : w.heap.size + 3 ≤ w1.heap.size := by have := b1.size; simpa using this
  have x5 := cA w.heap.size 5 (by simp; omega)
  have y0 := cA (w.heap.size + 1) 0 (by simp)
  have y1 := cA (w.heap.size + 1) 1 (by simp)
  have y2 := cA (w.heap.size + 1) 2 (by simp)
  have y3 := cA (w.heap.size + 1) 3 (by simp)
  have y4 := cA (w.heap.size + 1) 4 (by simp)
  have y5 := cA (w.heap.size + 1) 5 (by simp)
  have z0 := cA (w.heap.size + 2) 0 (by simp)
  have z1 := cA (w.heap.size + 2) 1 (by simp)
  have z2 := cA (w.heap.size + 2) 2 (by simp)
  have z3 := cA (w.heap.size + 2) 3 (by simp)
  have z4 := cA (w.heap.size + 2) 4 (by simp)
  have z5 := cA (w.heap.size + 2) 5 (by simp)
  have fy := fun j => fA (w.heap.size + 1) j (by simp)
  have fz := fun j => fA (w.heap.size + 2) j (by simp)
  clear cA fA
  simp [go_sem] at x5 y0 y1 y2 y3 y4 y5 z0 z1 z2 z3 z4 z5 fy fz
  go_wp2_with fail
  have bB : Below w.heap.size w ((((w1.setCell ⟨w.heap.size + 1 + 1, 1, none⟩ (.int .i64 k)).setCell ⟨w.heap.size + 1 + 1, 2, none⟩ (.int .i64 p)).setCell ⟨w.heap.size + 1 + 1, 3, none⟩ (.int .i64 q)).setCell ⟨w.heap.size + 1 + 1, 4, none⟩ (.int .i64 v)) :=
    (((bA.setCell (by simp; omega) _).setCell (by simp; omega) _).setCell (by simp; omega) _).setCell (by simp; omega) _
  refine (toInt64S_any a n cap zs _ (h.below bB) hn).mono ?_
  rintro e w3 ⟨rfl, o3, b3⟩
  have bC := bB.trans (b3.mono bB.size)
  obtain ⟨cA, fA⟩ := bcell b3
  have u0 := cA (w.heap.size + 1) 0 (by simp; omega)
  have u1 := cA (w.heap.size + 1) 1 (by simp; omega)
  have u2 := cA (w.heap.size + 1) 2 (by simp; omega)
  have u3 := cA (w.heap.size + 1) 3 (by simp; omega)
  have u4 := cA (w.heap.size + 1) 4 (by simp; omega)
  have u5 := cA (w.heap.size + 1) 5 (by simp; omega)
  have v0 := cA (w.heap.size + 2) 0 (by simp; omega)
  have v1 := cA (w.heap.size + 2) 1 (by simp; omega)
  have v2 := cA (w.heap.size + 2) 2 (by simp; omega)
  have v3 := cA (w.heap.size + 2) 3 (by simp; omega)
  have v4 := cA (w.heap.size + 2) 4 (by simp; omega)
  have v5 := cA (w.heap.size + 2) 5 (by simp; omega)
  have gy := fun j => fA (w.heap.size + 1) j (by simp; omega)
  have gz := fun j => fA (w.heap.size + 2) j (by simp; omega)
  simp [go_sem, y0, y1, y2, y3, y4, y5, z0, z1, z2, z3, z4, z5, fy, fz] at u0 u1 u2 u3 u4 u5 v0 v1 v2 v3 v4 v5 gy gz
  clear cA fA
  have hsz : w.heap.size + 3 ≤ w3.heap.size := by have := b3.size; simp at this; omega
  clear y0 y1 y2 y3 y4 y5 z0 z1 z2 z3 z4 z5 fy fz x5 b1
  go_wp2
  refine bodyPost_ret (v := .agg #[.int .i64 tx, .int .i64 k, .int .i64 p, .int .i64 q, .int .i64 v, .slice (some ⟨w1.heap.size, 0, none⟩) n n]) (by simp [results, Try.results38, go_sem, u0, u1, u2, u3, u4, u5, v0, v1, v2, v3, v4, v5]) rfl ⟨_, rfl, ?_, ?_⟩
  · simp only [World.size_setCell] at o3
    refine owns_base (base := w1.heap.size) ?_ (by omega)
    repeat (refine ownsRow_setCell_below ?_ (by simp only; omega) _)
    exact o3
  · repeat (refine Below.setCell ?_ (by simp only; omega) _)
    exact bC

theorem Ch.acSize_len {ls : List Ch.Ac} {N : Nat} (h : Ch.acSize ls ≤ N) : ls.length ≤ N := by unfold Ch.acSize at h; omega

set_option maxHeartbeats 800000 in
theorem toActS_any (a : Option Addr) (n cap : Nat) (ls : List Ch.Ac) (w : World) (h : AcAt w a n ls) (hs : Ch.acSize ls ≤ 1048576) :
    Calls Try.prog 11 #[.slice a n cap] w fun e w' => e = .returned (.slice (some ⟨w.heap.size, 0, none⟩) n n) ∧ (∃ vs, OwnAc w' w.heap.size (.slice (some ⟨w.heap.size, 0, none⟩) n n) n vs ls) ∧ Below w.heap.size w w' := by
  have HL := h.len
  have hn : n ≤ 1048576 := by have := Ch.acSize_len hs; have := HL.out; omega
  obtain ⟨i0, hi, hz0, hz1, hz2⟩ := info_parts Try.info68
  go_enter Try.func11, Try.ntmps11
  go_wp2_with (at_make; refine wpList_make_full _ rfl _ _ 32 rfl w.heap.size 68 i0 (.agg #[.int .i64 0, .int .i64 0, .int .i64 0, .int .i64 0, .int .i64 0, .slice none 0 0]) 6 Try.underlying32 hi hz0 hz1 .i64 .i64 _ _ n rfl rfl rfl rfl (by rw [hz2]; omega) (by unfold maxLen; omega) (Nat.le_refl _) ?_; intro w0 hown0 hgrow0)
  have hB0 : Below w.heap.size w w0 := (Below.refl _ _).grown hgrow0 (Nat.le_refl _) (by simp)
  go_loopw [4] (fun i wr => ∃ k : Nat, k ≤ n ∧ i = .int .i64 k ∧ (∃ vs, OwnAc wr w.heap.size (.slice (some ⟨w.heap.size, 0, none⟩) n n) n vs (ls.take k ++ List.replicate (n - k) Ch.Ac.zero)) ∧ Below w.heap.size w wr) (fun i _ => n - (intOf i).toNat)
  case atStart => exact ⟨0, Nat.zero_le _, rfl, ⟨_, by simpa using made_acts hown0⟩, hB0⟩
  case round =>
    obtain ⟨k, hk, rfl, ⟨vs, hown⟩, hB⟩ := hrel
    by_cases hlt : k < n
    · have HF : Hid ((ls.take k ++ List.replicate (n - k) Ch.Ac.zero).set k (Ch.acAt ls k) = _) := fill_set ls Ch.Ac.zero Ch.Ac.zero n k HL.out hlt
      have HS := hid (Ch.ac_one hs k)
      obtain ⟨b, off, ai, ni, ci, rfl, hc0, hc1, hc2, hc3, hc4, hc5, hr, hni⟩ := (h.below hB).act hlt
      have HR := hr.ilen
      have hni' : ni ≤ 1048576 := by have := HS.out; have := HR.out; omega
      generalize Ch.acAt ls k = l at *
      obtain ⟨tx, kd, p, q, v, an⟩ := l
      simp only at hc0 hc1 hc2 hc3 hc4 hr HR
      go_wp2_with fail
      refine (toAct_any tx kd p q v ai ni ci an _ hr hni').mono ?_
      rintro e w1 ⟨g, rfl, o1, b1⟩
      have hB1 := hB.trans (b1.mono hB.size)
      have ⟨_, _, ⟨cs, hO, _⟩, _⟩ := hown.below b1
      have hf0 := hO.frozenAt (k * 6)
      have hf1 := hO.frozenAt (k * 6 + 1)
      have hf2 := hO.frozenAt (k * 6 + 2)
      have hf3 := hO.frozenAt (k * 6 + 3)
      have hf4 := hO.frozenAt (k * 6 + 4)
      have hf5 := hO.frozenAt (k * 6 + 5)
      obtain ⟨u0, hd0⟩ := owns_some hO (j := k * 6) (by omega)
      obtain ⟨u1, hd1⟩ := owns_some hO (j := k * 6 + 1) (by omega)
      obtain ⟨u2, hd2⟩ := owns_some hO (j := k * 6 + 2) (by omega)
      obtain ⟨u3, hd3⟩ := owns_some hO (j := k * 6 + 3) (by omega)
      obtain ⟨u4, hd4⟩ := owns_some hO (j := k * 6 + 4) (by omega)
      obtain ⟨u5, hd5⟩ := owns_some hO (j := k * 6 + 5) (by omega)
      clear hO
      go_wp2
      go_roundw
      case rel =>
        refine ⟨k + 1, by omega, by go_num, ⟨vs.set k (.slice (some ⟨g, 0, none⟩) ni ni), ?_⟩, ?_⟩
        · rw [← HF.out]
          refine OwnAc.put (t := ⟨tx, kd, p, q, v, an⟩) hown b1 ?_ hlt hB.size
          have := HR.out
          subst this
          exact o1
        · exact (((((hB1.setCell (Nat.le_refl _) _).setCell (Nat.le_refl _) _).setCell (Nat.le_refl _) _).setCell (Nat.le_refl _) _).setCell (Nat.le_refl _) _).setCell (Nat.le_refl _) _
      case measure => simp [intOf]; omega
    · obtain rfl : k = n := by omega
      go_wp2
      go_ret
      refine ⟨rfl, ⟨vs, ?_⟩, hB⟩
      have := HL.out
      rw [List.take_of_length_le (by omega)] at hown
      simpa using hown

set_option maxHeartbeats 400000 in
theorem eqOp_same (k p q v : Int) (w : World) :
    Calls Try.prog 73 #[.agg #[.int .i64 k, .int .i64 p, .int .i64 q, .int .i64 v], .agg #[.int .i64 k, .int .i64 p, .int .i64 q, .int .i64 v]] w fun e w' => e = .returned (.bool true) ∧ Below w.heap.size w w' := by
  have h0 : (k != k) = false := by simp
  have h1 : (p != p) = false := by simp
  have h2 : (q != q) = false := by simp
  have h3 : (v != v) = false := by simp
  go_enter Try.func73, Try.ntmps73
  go_wp2
  go_ret
  exact ⟨rfl, ((Below.refl _ _).alloc (Nat.le_refl _) _).alloc (by simp) _⟩

set_option maxHeartbeats 400000 in
theorem eqAct_same (tx k p q v : Int) (a a' : Option Addr) (n cap cap' : Nat) (zs : List Int) (w : World) (h : CellsAt w a (n * 1) (icells zs)) (h' : CellsAt w a' (n * 1) (icells zs)) (hn : n ≤ 4194304) :
    Calls Try.prog 47 #[.agg #[.int .i64 tx, .int .i64 k, .int .i64 p, .int .i64 q, .int .i64 v, .slice a n cap], .agg #[.int .i64 tx, .int .i64 k, .int .i64 p, .int .i64 q, .int .i64 v, .slice a' n cap']] w fun e w' => e = .returned (.bool true) ∧ Below w.heap.size w w' := by
  have h0 : (tx != tx) = false := by simp
  have b0 : Below w.heap.size w ((w.alloc (.cells #[.int .i64 tx, .int .i64 k, .int .i64 p, .int .i64 q, .int .i64 v, .slice a n cap] 68)).alloc (.cells #[.int .i64 tx, .int .i64 k, .int .i64 p, .int .i64 q, .int .i64 v, .slice a' n cap'] 68)) := ((Below.refl _ _).alloc (Nat.le_refl _) _).alloc (by simp) _
  go_enter Try.func47, Try.ntmps47
  go_wp2_with fail
  refine (eqOp_same _ _ _ _ _).mono ?_
  rintro e w1 ⟨rfl, b1⟩
  have bA := b0.trans (b1.mono (by simp; omega))
  obtain ⟨cA, fA⟩ := bcell b1
  have x5 := cA w.heap.size 5 (by simp; omega)
  have y5 := cA (w.heap.size + 1) 5 (by simp)
  clear cA fA
  simp [go_sem] at x5 y5
  go_wp2_with fail
  refine (eqInts_same a a' n cap cap' zs _ (h.below bA) (h'.below bA) hn).mono ?_
  rintro e w2 ⟨rfl, b2⟩
  have bB := bA.trans (b2.mono bA.size)
  go_wp2
  go_ret
  exact ⟨rfl, bB⟩

set_option maxHeartbeats 800000 in
theorem eqActS_same (a a' : Option Addr) (n cap cap' : Nat) (ls : List Ch.Ac) (w : World) (h : AcAt w a n ls) (h' : AcAt w a' n ls) (hs : Ch.acSize ls ≤ 1048576) :
    Calls Try.prog 16 #[.slice a n cap, .slice a' n cap'] w fun e w' => e = .returned (.bool true) ∧ Below w.heap.size w w' := by
  have HL := h.len
  have hn : n ≤ 1048576 := by have := Ch.acSize_len hs; have := HL.out; omega
  have hnn : ((n : Int) != n) = false := by simp
  go_enter Try.func16, Try.ntmps16
  go_wp2
  go_loopw [5] (fun i wr => ∃ k : Nat, k ≤ n ∧ i = .int .i64 k ∧ Below w.heap.size w wr) (fun i _ => n - (intOf i).toNat)
  case atStart => exact ⟨0, Nat.zero_le _, rfl, Below.refl _ _⟩
  case round =>
    obtain ⟨k, hk, rfl, hB⟩ := hrel
    by_cases hlt : k < n
    · have HS := hid (Ch.ac_one hs k)
      obtain ⟨b, off, ai, ni, ci, rfl, hc0, hc1, hc2, hc3, hc4, hc5, hr, hni⟩ := (h.below hB).act hlt
      obtain ⟨b', off', ai', ni', ci', rfl, hd0, hd1, hd2, hd3, hd4, hd5, hr', hni'⟩ := (h'.below hB).act hlt
      have HR := hr.ilen
      have HR' := hr'.ilen
      obtain rfl : ni' = ni := HR'.out.trans HR.out.symm
      have hni : ni' ≤ 4194304 := by have := HS.out; have := HR.out; omega
      generalize Ch.acAt ls k = l at *
      obtain ⟨tx, kd, p, q, v, an⟩ := l
      simp only at hc0 hc1 hc2 hc3 hc4 hr hd0 hd1 hd2 hd3 hd4 hr'
      go_wp2
      go_region_with (go_at_call 47; refine (eqAct_same _ _ _ _ _ _ _ _ _ _ an _ (by assumption) (by assumption) hni).mono ?_; rintro e w1 ⟨rfl, b1⟩)
      all_goals
        have b1' : Below wr.heap.size wr _ := ⟨b1.os, b1.tape, b1.output, b1.size, b1.block⟩
        clear b1
        go_wp2
        go_roundw
        case rel => exact ⟨k + 1, by omega, by go_num, hB.trans (b1'.mono hB.size)⟩
        case measure => simp [intOf]; omega
    · obtain rfl : k = n := by omega
      go_wp2
      go_ret
      exact ⟨rfl, hB⟩
end Go.Proofs.Ytlpncikiaojmiaa

/- Marks that a law writes into acts. -/
namespace Go.Proofs.Ytlpncikiaojmiaa
open Go.RowKit

theorem set5 {cs : List Value} {n k : Nat} (hk : k < n) (hl : cs.length = n * 6) (a0 a1 a2 a3 a4 : Value) (i j : Nat) (hj : j < 6) :
    (((((cs.set (k * 6) a0).set (k * 6 + 1) a1).set (k * 6 + 2) a2).set (k * 6 + 3) a3).set (k * 6 + 4) a4)[i * 6 + j]? =
      if k = i ∧ j < 5 then some (match j with | 0 => a0 | 1 => a1 | 2 => a2 | 3 => a3 | _ => a4) else cs[i * 6 + j]? := by
  by_cases hik : k = i
  · subst hik
    match j, hj with
    | 0, _ => simp [List.getElem?_set]; omega
    | 1, _ => simp [List.getElem?_set]; omega
    | 2, _ => simp [List.getElem?_set]; omega
    | 3, _ => simp [List.getElem?_set]; omega
    | 4, _ => simp [List.getElem?_set]; omega
    | 5, _ =>
      rw [if_neg (by omega)]
      rw [List.getElem?_set_ne (by omega), List.getElem?_set_ne (by omega), List.getElem?_set_ne (by omega), List.getElem?_set_ne (by omega), List.getElem?_set_ne (by omega)]
  · rw [if_neg (by omega)]
    rw [List.getElem?_set_ne (by omega), List.getElem?_set_ne (by omega), List.getElem?_set_ne (by omega), List.getElem?_set_ne (by omega), List.getElem?_set_ne (by omega)]

theorem owns_stored5 {w : World} {base : Nat} {e : TypeId} {size g n cap : Nat} {xs : List Value} (h : w.ownsRow base e size (.slice (some ⟨g, 0, none⟩) n cap) n xs) (j : Nat) (v0 v1 v2 v3 v4 : Value) :
    (((((w.setCell ⟨g, j, none⟩ v0).setCell ⟨g, j + 1, none⟩ v1).setCell ⟨g, j + 2, none⟩ v2).setCell ⟨g, j + 3, none⟩ v3).setCell ⟨g, j + 4, none⟩ v4).ownsRow base e size (.slice (some ⟨g, 0, none⟩) n cap) n (((((xs.set j v0).set (j + 1) v1).set (j + 2) v2).set (j + 3) v3).set (j + 4) v4) ∧
    w.grownBy (((((w.setCell ⟨g, j, none⟩ v0).setCell ⟨g, j + 1, none⟩ v1).setCell ⟨g, j + 2, none⟩ v2).setCell ⟨g, j + 3, none⟩ v3).setCell ⟨g, j + 4, none⟩ v4) (some g) := by
  have s0 := h.stored j v0
  have s1 := s0.1.stored (j + 1) v1
  have s2 := s1.1.stored (j + 2) v2
  have s3 := s2.1.stored (j + 3) v3
  have s4 := s3.1.stored (j + 4) v4
  exact ⟨s4.1, gr_trans (gr_trans (gr_trans (gr_trans s0.2 s1.2) s2.2) s3.2) s4.2⟩

/-- The numbers of an act are written. -/
theorem OwnAc.five {w : World} {B o n cap k : Nat} {ts : List Ch.Ac} {vs : List Value} (h : OwnAc w B (.slice (some ⟨o, 0, none⟩) n cap) n vs ts) (hk : k < n) (a0 a1 a2 a3 a4 : Int) :
    OwnAc (((((w.setCell ⟨o, k * 6, none⟩ (.int .i64 a0)).setCell ⟨o, k * 6 + 1, none⟩ (.int .i64 a1)).setCell ⟨o, k * 6 + 2, none⟩ (.int .i64 a2)).setCell ⟨o, k * 6 + 3, none⟩ (.int .i64 a3)).setCell ⟨o, k * 6 + 4, none⟩ (.int .i64 a4)) B (.slice (some ⟨o, 0, none⟩) n cap) n vs (ts.set k ⟨a0, a1, a2, a3, a4, (Ch.acAt ts k).an⟩) ∧
    w.grownBy (((((w.setCell ⟨o, k * 6, none⟩ (.int .i64 a0)).setCell ⟨o, k * 6 + 1, none⟩ (.int .i64 a1)).setCell ⟨o, k * 6 + 2, none⟩ (.int .i64 a2)).setCell ⟨o, k * 6 + 3, none⟩ (.int .i64 a3)).setCell ⟨o, k * 6 + 4, none⟩ (.int .i64 a4)) (some o) := by
  obtain ⟨hl, hvl, ⟨cs, ho, hcs⟩, hi, hd, hd'⟩ := h
  have hst := owns_stored5 ho (k * 6) (.int .i64 a0) (.int .i64 a1) (.int .i64 a2) (.int .i64 a3) (.int .i64 a4)
  refine ⟨⟨by simpa using hl, hvl, ⟨_, hst.1, fun i j hin hj => ?_⟩, fun i hlt => ?_, hd, hd'⟩, hst.2⟩
  · rw [set5 hk ho.1 _ _ _ _ _ i j hj, Ch.acAt_set ts k i _ (by omega)]
    by_cases hik : k = i
    · subst hik
      rw [if_pos rfl]
      match j, hj with
      | 0, _ => rw [if_pos ⟨rfl, by decide⟩]; rfl
      | 1, _ => rw [if_pos ⟨rfl, by decide⟩]; rfl
      | 2, _ => rw [if_pos ⟨rfl, by decide⟩]; rfl
      | 3, _ => rw [if_pos ⟨rfl, by decide⟩]; rfl
      | 4, _ => rw [if_pos ⟨rfl, by decide⟩]; rfl
      | 5, _ => rw [if_neg (by omega)]; exact hcs k 5 hk (by omega)
    · rw [if_neg (by omega), if_neg hik]
      exact hcs i j hin hj
  · obtain ⟨y, h1, h2⟩ := hi i hlt
    have e : (Ch.acAt (ts.set k ⟨a0, a1, a2, a3, a4, (Ch.acAt ts k).an⟩) i).an = (Ch.acAt ts i).an := by
      rw [Ch.acAt_set ts k i _ (by omega)]
      by_cases hik : k = i
      · subst hik; rw [if_pos rfl]
      · rw [if_neg hik]
    refine ⟨y, h1, ?_⟩
    rw [e]
    exact owns_grown h2 hst.2 fun g hg he => hd' i y g h1 he hg

theorem OwnAc.fiveB {w : World} {B o n cap k : Nat} {ts : List Ch.Ac} {vs : List Value} (h : OwnAc w B (.slice (some ⟨o, 0, none⟩) n cap) n vs ts) (hk : k < n) (a0 a1 a2 a3 a4 : Int) :
    OwnAc (((((w.setCell ⟨o, k * 6, none⟩ (.int .i64 a0)).setCell ⟨o, k * 6 + 1, none⟩ (.int .i64 a1)).setCell ⟨o, k * 6 + 1 + 1, none⟩ (.int .i64 a2)).setCell ⟨o, k * 6 + 1 + 2, none⟩ (.int .i64 a3)).setCell ⟨o, k * 6 + 1 + 3, none⟩ (.int .i64 a4)) B (.slice (some ⟨o, 0, none⟩) n cap) n vs (ts.set k ⟨a0, a1, a2, a3, a4, (Ch.acAt ts k).an⟩) ∧
    w.grownBy (((((w.setCell ⟨o, k * 6, none⟩ (.int .i64 a0)).setCell ⟨o, k * 6 + 1, none⟩ (.int .i64 a1)).setCell ⟨o, k * 6 + 1 + 1, none⟩ (.int .i64 a2)).setCell ⟨o, k * 6 + 1 + 2, none⟩ (.int .i64 a3)).setCell ⟨o, k * 6 + 1 + 3, none⟩ (.int .i64 a4)) (some o) := by
  have := h.five hk a0 a1 a2 a3 a4
  rw [show k * 6 + 4 = k * 6 + 1 + 3 from rfl, show k * 6 + 3 = k * 6 + 1 + 2 from rfl, show k * 6 + 2 = k * 6 + 1 + 1 from rfl] at this
  exact this

/-- The Answer of an act: where it lies, and what comes of it when it alone is written. -/
theorem OwnAc.inner {w : World} {B n cap : Nat} {a : Option Addr} {vs : List Value} {ts : List Ch.Ac} (h : OwnAc w B (.slice a n cap) n vs ts) {k : Nat} (hk : k < n) :
    ∃ b ai ci, a = some ⟨b, 0, none⟩ ∧ b < w.heap.size ∧ w.cell? ⟨b, k * 6 + 5, none⟩ = some (.slice ai (Ch.acAt ts k).an.length ci) ∧ vs[k]? = some (.slice ai (Ch.acAt ts k).an.length ci) ∧ w.ownsRow B 2 1 (.slice ai (Ch.acAt ts k).an.length ci) (Ch.acAt ts k).an.length (icells (Ch.acAt ts k).an) ∧
      ∀ (w' : World) (l' : List Int), w.grownBy w' (Value.slice ai (Ch.acAt ts k).an.length ci).ownBlock → w'.ownsRow B 2 1 (.slice ai (Ch.acAt ts k).an.length ci) l'.length (icells l') → OwnAc w' B (.slice a n cap) n vs (ts.set k { Ch.acAt ts k with an := l' }) := by
  obtain ⟨hl, hvl, ⟨cs, ho, hcs⟩, hi, hd, hd'⟩ := h
  obtain ⟨x, h1, h2⟩ := hi k hk
  obtain ⟨ai, ci, rfl⟩ := owns_shape h2
  have hc := owns_cells ho
  rcases ho.2 with ⟨hv, h0⟩ | ⟨g, cp, cur, hv, _⟩
  · omega
  simp only [Value.slice.injEq, true_and] at hv
  obtain ⟨rfl, rfl⟩ := hv
  obtain ⟨b, off, ha, hcc⟩ := hc.2 (by omega)
  simp only [Option.some.injEq, Addr.mk.injEq, and_true] at ha
  obtain ⟨rfl, rfl⟩ := ha
  have hck := (hcc (k * 6 + 5) (by omega)).trans (hcs k 5 hk (by omega))
  have e5 : ac6 (Ch.acAt ts k) (vs.getD k (.slice none 0 0)) 5 = .slice ai (Ch.acAt ts k).an.length ci := by simp [ac6, List.getD, h1]
  rw [e5, Nat.zero_add] at hck
  refine ⟨g, ai, ci, rfl, lt_of_cell hck, hck, h1, h2, ?_⟩
  intro w' l' hg hw'
  refine ⟨by simpa using hl, hvl, ⟨cs, owns_grown ho hg fun g' hg' e => hd' k _ g' h1 hg' e, fun i j hin hj => ?_⟩, fun i hlt => ?_, hd, hd'⟩
  · rw [hcs i j hin hj, Ch.acAt_set ts k i _ (by omega)]
    by_cases hik : k = i
    · subst hik
      rw [if_pos rfl]
      match j, hj with
      | 0, _ => rfl
      | 1, _ => rfl
      | 2, _ => rfl
      | 3, _ => rfl
      | 4, _ => rfl
      | 5, _ => rfl
    · rw [if_neg hik]
  · rw [Ch.acAt_set ts k i _ (by omega)]
    by_cases hik : k = i
    · subst hik
      rw [if_pos rfl]
      exact ⟨_, h1, hw'⟩
    · rw [if_neg hik]
      obtain ⟨y, h3, h4⟩ := hi i hlt
      refine ⟨y, h3, owns_grown h4 hg fun g' hg' e => ?_⟩
      rcases Nat.lt_or_gt_of_ne hik with hlt' | hgt
      · exact hd k i _ y g' hlt' h1 h3 e hg'
      · exact hd i k y _ g' hgt h3 h1 hg' e

/-- Where the marks of the k-th act begin. -/
def Ch.acPos (ts : List Ch.Ac) (k : Nat) : Nat := 5 * k + ((ts.take k).map (·.an.length)).sum
theorem Ch.acPos_next (ts : List Ch.Ac) (k : Nat) (h : k < ts.length) : Ch.acPos ts (k + 1) = Ch.acPos ts k + 5 + (Ch.acAt ts k).an.length := by
  unfold Ch.acPos
  rw [Ch.ac_take ts k h]
  omega
theorem Ch.acPos_small {ts : List Ch.Ac} {N : Nat} (hs : Ch.acSize ts ≤ N) (k : Nat) (hk : k ≤ ts.length) : Ch.acPos ts k ≤ 5 * N := by
  have := Ch.ac_le ts k
  unfold Ch.acSize at hs
  unfold Ch.acPos
  omega

theorem OwnAc.grown {w w' : World} {B n : Nat} {v : Value} {vs : List Value} {ts : List Ch.Ac} {row : Option Nat} (h : OwnAc w B v n vs ts) (hg : w.grownBy w' row) (h1 : ∀ g, v.ownBlock = some g → row ≠ some g) (h2 : ∀ (i : Nat) (x : Value) (g : Nat), vs[i]? = some x → x.ownBlock = some g → row ≠ some g) : OwnAc w' B v n vs ts := by
  obtain ⟨hl, hvl, ⟨cs, ho, hcs⟩, hi, hd, hd'⟩ := h
  refine ⟨hl, hvl, ⟨cs, owns_grown ho hg h1, hcs⟩, fun i hlt => ?_, hd, hd'⟩
  obtain ⟨x, h3, h4⟩ := hi i hlt
  exact ⟨x, h3, owns_grown h4 hg (fun g hg' => h2 i x g h3 hg')⟩

set_option maxHeartbeats 2000000 in
theorem markActS_in (s : Int) (B lo hi : Nat) (a : Option Addr) (n cap : Nat) (ts : List Ch.Ac) (vs : List Value) (w : World) (h : OwnAc w B (.slice a n cap) n vs ts) (hq0 : ∀ (i : Nat) (x : Value) (g : Nat), vs[i]? = some x → x.ownBlock = some g → lo ≤ g ∧ g < hi) (hq1 : ∀ g, (Value.slice a n cap).ownBlock = some g → lo ≤ g ∧ g < hi) (hs : Ch.acSize ts ≤ 1048576) (hs0 : 0 < s) (hs1 : s ≤ 1073741824) :
    Calls Try.prog 19 #[.slice a n cap, .int .i64 s] w fun e w' => e = .returned (.int .i64 (s + (Ch.acPos ts n : Int))) ∧ Within lo hi w w' := by
  have HL : Hid (ts.length = n) := h.1
  have hlt0 := hid hq0
  have hlt1 := hid hq1
  clear hq0 hq1
  have hn : n ≤ 1048576 := by have := Ch.acSize_len hs; have := HL.out; omega
  go_enter Try.func19, Try.ntmps19
  go_wp2
  go_loopw [1, 5] (fun q i wr => ∃ (k : Nat) (us : List Ch.Ac), k ≤ n ∧ i = .int .i64 k ∧ q = .int .i64 (s + (Ch.acPos ts k : Int)) ∧ OwnAc wr B (.slice a n cap) n vs us ∧ Hid (∀ i, (Ch.acAt us i).an.length = (Ch.acAt ts i).an.length) ∧ Within lo hi w wr) (fun _ i _ => n - (intOf i).toNat)
  case atStart => exact ⟨0, ts, Nat.zero_le _, rfl, by simp [Ch.acPos], h, fun _ => rfl, Within.refl _ _ _⟩
  case round =>
    obtain ⟨k, us, hk, rfl, rfl, own, HU, hW⟩ := hrel
    by_cases hlt : k < n
    · have hkl : k < ts.length := by have := HL.out; omega
      have HS := hid (Ch.ac_one hs k)
      have HB := hid (Ch.acPos_next ts k hkl)
      have hbs := Ch.acPos_small hs k (by omega)
      have hku : Hid (k < us.length) := by show _ < _; have := own.1; omega
      obtain ⟨b, ai, ci, rfl, hbl, hc, hvk, ho, _⟩ := own.inner hlt
      obtain ⟨_, _, ⟨cs, hO, hcs⟩, _⟩ := own
      have own : OwnAc wr B (.slice (some ⟨b, 0, none⟩) n cap) n vs us := ⟨by assumption, by assumption, ⟨cs, hO, hcs⟩, by assumption⟩
      have hf0 := hO.frozenAt (k * 6)
      have hf1 := hO.frozenAt (k * 6 + 1)
      have hf2 := hO.frozenAt (k * 6 + 1 + 1)
      have hf3 := hO.frozenAt (k * 6 + 1 + 2)
      have hf4 := hO.frozenAt (k * 6 + 1 + 3)
      obtain ⟨u0, hd0⟩ := owns_some hO (j := k * 6) (by omega)
      obtain ⟨u1, hd1⟩ := owns_some hO (j := k * 6 + 1) (by omega)
      obtain ⟨u2, hd2⟩ := owns_some hO (j := k * 6 + 1 + 1) (by omega)
      obtain ⟨u3, hd3⟩ := owns_some hO (j := k * 6 + 1 + 2) (by omega)
      obtain ⟨u4, hd4⟩ := owns_some hO (j := k * 6 + 1 + 3) (by omega)
      generalize Ch.acPos ts k = q at *
      obtain ⟨own5, gr5⟩ := own.fiveB hlt (s + (q : Int)) (s + (q : Int) + 1) (s + (q : Int) + 1 + 1) (s + (q : Int) + 1 + 1 + 1) (s + (q : Int) + 1 + 1 + 1 + 1)
      clear hO hcs
      have HU5 : Hid (Ch.acAt (us.set k ⟨s + (q : Int), s + (q : Int) + 1, s + (q : Int) + 1 + 1, s + (q : Int) + 1 + 1 + 1, s + (q : Int) + 1 + 1 + 1 + 1, (Ch.acAt us k).an⟩) k = ⟨s + (q : Int), s + (q : Int) + 1, s + (q : Int) + 1 + 1, s + (q : Int) + 1 + 1 + 1, s + (q : Int) + 1 + 1 + 1 + 1, (Ch.acAt us k).an⟩) := by
        show _ = _
        rw [Ch.acAt_set us k k _ hku.out, if_pos rfl]
      obtain ⟨b', ai', ci', h1', h2', h3', hvk', ho5, hput⟩ := own5.inner hlt
      clear h1' h2' h3' b'
      rw [HU5.out] at hvk' ho5 hput
      simp only at hvk' ho5 hput
      rw [hvk] at hvk'
      simp only [Option.some.injEq, Value.slice.injEq, true_and] at hvk'
      obtain ⟨rfl, rfl⟩ := hvk'
      have HLn := hid (HU.out k)
      have hln : Hid ((Ch.acAt us k).an.length ≤ 4194304) := by show _ ≤ _; have h1 := HLn.out; have h2 := HS.out; omega
      have HUn : Hid (∀ l' : List Int, l'.length = (Ch.acAt us k).an.length → ∀ i, (Ch.acAt ((us.set k ⟨s + (q : Int), s + (q : Int) + 1, s + (q : Int) + 1 + 1, s + (q : Int) + 1 + 1 + 1, s + (q : Int) + 1 + 1 + 1 + 1, (Ch.acAt us k).an⟩).set k ⟨s + (q : Int), s + (q : Int) + 1, s + (q : Int) + 1 + 1, s + (q : Int) + 1 + 1 + 1, s + (q : Int) + 1 + 1 + 1 + 1, l'⟩) i).an.length = (Ch.acAt ts i).an.length) := by
        intro l' hl' i
        rw [Ch.acAt_set _ k i _ (by simpa using hku.out), Ch.acAt_set us k i _ hku.out]
        by_cases hik : k = i
        · subst hik
          rw [if_pos rfl]
          exact hl'.trans (HU.out k)
        · rw [if_neg hik, if_neg hik]
          exact HU.out i
      clear own HU5 own5
      have HPut := hid hput
      have HO5 := hid ho5
      have HG5 := hid gr5
      clear hput ho5 gr5 ho
      go_wp2_with fail
      have ho5 := HO5.out
      have gr5 := HG5.out
      refine (markInts_any (s + (q : Int) + 1 + 1 + 1 + 1 + 1) B (Ch.acAt us k).an.length ai ci (Ch.acAt us k).an _ (by omega) (by omega) ho5 hln.out).mono ?_
      rintro e w6 ⟨rfl, own6, gr6⟩
      have own7 := HPut.out w6 (imarks (s + (q : Int) + 1 + 1 + 1 + 1 + 1) (Ch.acAt us k).an.length) gr6 (by rw [imarks_len]; exact own6)
      have hlb := hlt1.out b rfl
      have hW6 : Within lo hi w w6 := by
        refine (hW.trans (within_grown gr5 hlb.1 hlb.2)).trans ?_
        rcases ho5.2 with ⟨hv, _⟩ | ⟨g, cp, cur, hv, _⟩
        · rw [hv] at gr6
          exact ⟨gr6.os, gr6.tape, gr6.output, gr6.size, fun j hj _ => gr6.block j hj (by simp [Value.ownBlock])⟩
        · have hgb := hlt0.out k _ g hvk (by rw [hv]; rfl)
          rw [hv] at gr6
          exact within_grown gr6 hgb.1 hgb.2
      go_wp2
      go_roundw
      case rel => exact ⟨k + 1, _, by omega, by go_num, by rw [HB.out, ← HLn.out]; simp; omega, own7, HUn.out _ (imarks_len _ _), hW6⟩
      case measure => simp [intOf]; omega
    · obtain rfl : k = n := by omega
      go_wp2
      go_ret
      exact ⟨rfl, hW⟩
theorem markActS_any (s : Int) (B : Nat) (a : Option Addr) (n cap : Nat) (ts : List Ch.Ac) (vs : List Value) (w0 w : World) (h : OwnAc w0 B (.slice a n cap) n vs ts) (hb : Below w0.heap.size w0 w) (hs : Ch.acSize ts ≤ 1048576) (hs0 : 0 < s) (hs1 : s ≤ 1073741824) :
    Calls Try.prog 19 #[.slice a n cap, .int .i64 s] w fun e w' => e = .returned (.int .i64 (s + (Ch.acPos ts n : Int))) ∧ Within B w0.heap.size w w' :=
  markActS_in s B B w0.heap.size a n cap ts vs w (h.below hb) h.lt h.lt0 hs hs0 hs1
end Go.Proofs.Ytlpncikiaojmiaa

