/- Walks of the laws' functions on acts: sizes, copies, comparisons. -/
import Derived.Test.YtlpncikiaojmiaaAcB
import Derived.Test.YtlpncikiaojmiaaIntS
import Derived.Test.YtlpncikiaojmiaaOpW
namespace Go.Proofs.Ytlpncikiaojmiaa
open Go.RowKit

theorem szInts_any (a : Option Addr) (n cap L : Nat) (w : World) (hL : L ≤ 1048576) (hm : n ≤ 9223372036854775807) :
    Calls Try.prog 65 #[.slice a n cap, .int .i64 L] w fun e w' => e = .returned (.int .i64 (if n ≤ L then (L : Int) - n else -1)) ∧ w' = w := by
  by_cases h : n ≤ L
  · rw [if_pos h]
    go_enter Try.func65, Try.ntmps65
    go_wp2
    go_ret
    exact ⟨rfl, rfl⟩
  · rw [if_neg h]
    have h' : L < n := by omega
    clear h
    go_enter Try.func65, Try.ntmps65
    go_wp2
    go_ret
    exact ⟨rfl, rfl⟩

theorem szAct_any (a : Option Addr) (n cap L : Nat) (tx k p q v : Int) (w : World) (hL : L ≤ 1048576) (hm : n ≤ 9223372036854775807) :
    Calls Try.prog 33 #[.agg #[.int .i64 tx, .int .i64 k, .int .i64 p, .int .i64 q, .int .i64 v, .slice a n cap], .int .i64 L] w fun e w' => e = .returned (.int .i64 (if n ≤ L then (L : Int) - n else -1)) ∧ Below w.heap.size w w' := by
  by_cases h : n ≤ L
  · go_enter Try.func33, Try.ntmps33
    go_wp2_with fail
    refine (szInts_any a n cap L _ hL hm).mono ?_
    rintro e w1 ⟨rfl, rfl⟩
    rw [if_pos h]
    go_wp2
    go_ret
    exact ⟨rfl, (Below.refl _ _).alloc (Nat.le_refl _) _⟩
  · go_enter Try.func33, Try.ntmps33
    go_wp2_with fail
    refine (szInts_any a n cap L _ hL hm).mono ?_
    rintro e w1 ⟨rfl, rfl⟩
    rw [if_neg h]
    go_wp2
    go_ret
    exact ⟨rfl, (Below.refl _ _).alloc (Nat.le_refl _) _⟩

/-- What is left; -1: they are too big. -/
def Ch.acLeft (L : Nat) (ls : List Ch.Ac) : Int := if Ch.acSize ls ≤ L then (L : Int) - (Ch.acSize ls : Int) else -1
theorem Ch.acLeft_big {L : Nat} {ls : List Ch.Ac} (h : L < Ch.acSize ls) : -1 = Ch.acLeft L ls := by
  rw [Ch.acLeft, if_neg (by omega)]

set_option maxHeartbeats 800000 in
theorem szActS_any (a : Option Addr) (n cap N : Nat) (ls : List Ch.Ac) (w : World) (h : AcAt w a n ls) (hN : N ≤ 1048576) (hm : n ≤ 9223372036854775807) :
    Calls Try.prog 8 #[.slice a n cap, .int .i64 N] w fun e w' => e = .returned (.int .i64 (Ch.acLeft N ls)) ∧ Below w.heap.size w w' := by
  have HL := h.len
  by_cases hn : N < n
  · go_enter Try.func8, Try.ntmps8
    go_wp2
    go_ret
    exact ⟨ret_int (Ch.acLeft_big (by unfold Ch.acSize; have := HL.out; omega)), Below.refl _ _⟩
  have hn' : n ≤ N := by omega
  clear hn
  go_enter Try.func8, Try.ntmps8
  go_wp2
  go_loopw [1, 5] (fun q i wr => ∃ k L : Nat, k ≤ n ∧ L ≤ N ∧ i = .int .i64 k ∧ q = .int .i64 L ∧ Hid (L + n + ((ls.take k).map (·.an.length)).sum = N) ∧ Below w.heap.size w wr) (fun _ i _ => n - (intOf i).toNat)
  case atStart => exact ⟨0, N - n, Nat.zero_le _, by omega, rfl, by go_num, (by show _ = _; simp; omega), Below.refl _ _⟩
  case round =>
    obtain ⟨k, L, hk, hL, rfl, rfl, HS, hB⟩ := hrel
    by_cases hlt : k < n
    · have HT := hid (Ch.ac_take ls k (by have := HL.out; omega))
      have HE := hid (Ch.ac_le ls (k + 1))
      obtain ⟨b, off, ai, ni, ci, rfl, hc0, hc1, hc2, hc3, hc4, hc5, hr, hni⟩ := (h.below hB).act hlt
      have HR := hr.ilen
      have hL' : L ≤ 1048576 := by omega
      generalize Ch.acAt ls k = l at *
      obtain ⟨tx, kd, p, q, v, an⟩ := l
      simp only at hc0 hc1 hc2 hc3 hc4 hr HT HR
      by_cases hle : ni ≤ L
      · go_wp2_with fail
        refine (szAct_any ai ni ci L _ _ _ _ _ _ hL' hni).mono ?_
        rintro e w1 ⟨rfl, b1⟩
        have hB1 := hB.trans (b1.mono hB.size)
        rw [if_pos hle]
        obtain ⟨M, rfl⟩ : ∃ M, L = ni + M := ⟨L - ni, by omega⟩
        rw [show ((ni + M : Nat) : Int) - (ni : Int) = (M : Int) by omega]
        clear hle
        go_wp2
        go_roundw
        case rel => exact ⟨k + 1, M, by omega, by omega, by go_num, rfl, (by have h1 := HS.out; have h2 := HT.out; have h3 := HR.out; show _ = _; omega), hB1⟩
        case measure => simp [intOf]; omega
      · go_wp2_with fail
        refine (szAct_any ai ni ci L _ _ _ _ _ _ hL' hni).mono ?_
        rintro e w1 ⟨rfl, b1⟩
        have hB1 := hB.trans (b1.mono hB.size)
        rw [if_neg hle]
        go_wp2
        go_ret
        exact ⟨ret_int (Ch.acLeft_big (by unfold Ch.acSize; have h0 := HL.out; have h1 := HS.out; have h2 := HT.out; have h3 := HR.out; have h4 := HE.out; omega)), hB1⟩
    · obtain rfl : k = n := by omega
      go_wp2
      go_ret
      refine ⟨ret_int ?_, hB⟩
      have h0 := HL.out
      have h1 := HS.out
      rw [List.take_of_length_le (by omega)] at h1
      rw [Ch.acLeft, if_pos (by unfold Ch.acSize; omega)]
      unfold Ch.acSize
      omega

theorem Try.info68 : (Try.prog.info? 68).map (fun i => (i.zero, i.size, i.bytes)) = some (some (.agg #[.int .i64 0, .int .i64 0, .int .i64 0, .int .i64 0, .int .i64 0, .slice none 0 0]), 6, 64) := by kernel_rfl

theorem made_acts {w : World} {B n : Nat} {v : Value} (h : w.ownsRow B 68 6 v n (madeCells (Value.agg #[.int .i64 0, .int .i64 0, .int .i64 0, .int .i64 0, .int .i64 0, .slice none 0 0]).cells (n * 6)).toList) : OwnAc w B v n (List.replicate n (.slice none 0 0)) (List.replicate n Ch.Ac.zero) := by
  have hx : ∀ (i : Nat) (x : Value), (List.replicate n (Value.slice none 0 0))[i]? = some x → x = .slice none 0 0 := by
    intro i x hi
    rw [List.getElem?_replicate] at hi
    split at hi
    · cases hi; rfl
    · cases hi
  have hz : ∀ i, Ch.acAt (List.replicate n Ch.Ac.zero) i = Ch.Ac.zero := by
    intro i
    unfold Ch.acAt
    by_cases hi : i < n
    · simp [List.getD, hi]
    · simp [List.getD, hi]
  refine ⟨by simp, by simp, ⟨_, h, fun i j hi hj => ?_⟩, fun i hi => ⟨.slice none 0 0, by simp [hi], ?_⟩, ?_, ?_⟩
  · rw [hz i]
    have e2 : (List.replicate n (Value.slice none 0 0)).getD i (.slice none 0 0) = .slice none 0 0 := by simp [List.getD, hi]
    rw [e2]
    have hlt : i * 6 + j < n * 6 := by omega
    have hm : (i * 6 + j) % 6 = j := by omega
    have e : (madeCells (Value.agg #[.int .i64 0, .int .i64 0, .int .i64 0, .int .i64 0, .int .i64 0, .slice none 0 0]).cells (n * 6)).toList[i * 6 + j]? = some (#[Value.int .i64 0, .int .i64 0, .int .i64 0, .int .i64 0, .int .i64 0, .slice none 0 0].getD ((i * 6 + j) % 6) default) := by
      simp [madeCells, hlt, Value.cells]
    rw [e, hm]
    match j, hj with
    | 0, _ => rfl
    | 1, _ => rfl
    | 2, _ => rfl
    | 3, _ => rfl
    | 4, _ => rfl
    | 5, _ => rfl
  · rw [hz i]
    exact World.ownsRow_nil _ _ _ _
  · intro i j x y g _ hi hj hg
    rw [hx i x hi] at hg
    simp [Value.ownBlock] at hg
  · intro i x g hi _ hg
    rw [hx i x hi] at hg
    simp [Value.ownBlock] at hg

set_option linter.unusedSimpArgs false in
set_option maxHeartbeats 800000 in
theorem toAct_any (tx k p q v : Int) (a : Option Addr) (n cap : Nat) (zs : List Int) (w : World) (h : CellsAt w a (n * 1) (icells zs)) (hn : n ≤ 1048576) :
    Calls Try.prog 38 #[.agg #[.int .i64 tx, .int .i64 k, .int .i64 p, .int .i64 q, .int .i64 v, .slice a n cap]] w fun e w' => ∃ g, e = .returned (.agg #[.int .i64 tx, .int .i64 k, .int .i64 p, .int .i64 q, .int .i64 v, .slice (some ⟨g, 0, none⟩) n n]) ∧ w'.ownsRow w.heap.size 2 1 (.slice (some ⟨g, 0, none⟩) n n) n (icells zs) ∧ Below w.heap.size w w' := by
  go_enter Try.func38, Try.ntmps38
  go_wp2_with fail
  refine (toOp_any _ _ _ _ _).mono ?_
  rintro e w1 ⟨rfl, b1⟩
  obtain ⟨cA, fA⟩ := bcell b1
  have bA : Below w.heap.size w w1 := by
    refine Below.trans ?_ (b1.mono (by simp; omega))
    refine Below.alloc (Below.alloc (Below.alloc (Below.refl _ w) (Nat.le_refl _) _) ?_ _) ?_ _
    · simp
    · simp; omega
  have hs1 : w.heap.size + 3 ≤ w1.heap.size := by have := b1.size; simpa using this
  have x5 := cA w.heap.size 5 (by simp; omega)
  have y0 := cA (w.heap.size + 1) 0 (by simp)
  have y1 := cA (w.heap.size + 1) 1 (by simp)
  have y2 := cA (w.heap.size + 1) 2 (by simp)
  have y3 := cA (w.heap.size + 1) 3 (by simp)
  have y4 := cA (w.heap.size + 1) 4 (by simp)
  have y5 := cA (w.heap.size + 1) 5 (by simp)
  have z0 := cA (w.heap.size + 2) 0 (by simp)
  have z1 := cA (w.heap.size + 2) 1 (by simp)
  have z2 := cA (w.heap.size + 2) 2 (by simp)
  have z3 := cA (w.heap.size + 2) 3 (by simp)
  have z4 := cA (w.heap.size + 2) 4 (by simp)
  have z5 := cA (w.heap.size + 2) 5 (by simp)
  have fy := fun j => fA (w.heap.size + 1) j (by simp)
  have fz := fun j => fA (w.heap.size + 2) j (by simp)
  clear cA fA
  simp [go_sem] at x5 y0 y1 y2 y3 y4 y5 z0 z1 z2 z3 z4 z5 fy fz
  go_wp2_with fail
  have bB : Below w.heap.size w ((((w1.setCell ⟨w.heap.size + 1 + 1, 1, none⟩ (.int .i64 k)).setCell ⟨w.heap.size + 1 + 1, 2, none⟩ (.int .i64 p)).setCell ⟨w.heap.size + 1 + 1, 3, none⟩ (.int .i64 q)).setCell ⟨w.heap.size + 1 + 1, 4, none⟩ (.int .i64 v)) :=
    (((bA.setCell (by simp; omega) _).setCell (by simp; omega) _).setCell (by simp; omega) _).setCell (by simp; omega) _
  refine (toInt64S_any a n cap zs _ (h.below bB) hn).mono ?_
  rintro e w3 ⟨rfl, o3, b3⟩
  have bC := bB.trans (b3.mono bB.size)
  obtain ⟨cA, fA⟩ := bcell b3
  have u0 := cA (w.heap.size + 1) 0 (by simp; omega)
  have u1 := cA (w.heap.size + 1) 1 (by simp; omega)
  have u2 := cA (w.heap.size + 1) 2 (by simp; omega)
  have u3 := cA (w.heap.size + 1) 3 (by simp; omega)
  have u4 := cA (w.heap.size + 1) 4 (by simp; omega)
  have u5 := cA (w.heap.size + 1) 5 (by simp; omega)
  have v0 := cA (w.heap.size + 2) 0 (by simp; omega)
  have v1 := cA (w.heap.size + 2) 1 (by simp; omega)
  have v2 := cA (w.heap.size + 2) 2 (by simp; omega)
  have v3 := cA (w.heap.size + 2) 3 (by simp; omega)
  have v4 := cA (w.heap.size + 2) 4 (by simp; omega)
  have v5 := cA (w.heap.size + 2) 5 (by simp; omega)
  have gy := fun j => fA (w.heap.size + 1) j (by simp; omega)
  have gz := fun j => fA (w.heap.size + 2) j (by simp; omega)
  simp [go_sem, y0, y1, y2, y3, y4, y5, z0, z1, z2, z3, z4, z5, fy, fz] at u0 u1 u2 u3 u4 u5 v0 v1 v2 v3 v4 v5 gy gz
  clear cA fA
  have hsz : w.heap.size + 3 ≤ w3.heap.size := by have := b3.size; simp at this; omega
  clear y0 y1 y2 y3 y4 y5 z0 z1 z2 z3 z4 z5 fy fz x5 b1
  go_wp2
  refine bodyPost_ret (v := .agg #[.int .i64 tx, .int .i64 k, .int .i64 p, .int .i64 q, .int .i64 v, .slice (some ⟨w1.heap.size, 0, none⟩) n n]) (by simp [results, Try.results38, go_sem, u0, u1, u2, u3, u4, u5, v0, v1, v2, v3, v4, v5]) rfl ⟨_, rfl, ?_, ?_⟩
  · simp only [World.size_setCell] at o3
    refine owns_base (base := w1.heap.size) ?_ (by omega)
    repeat (refine ownsRow_setCell_below ?_ (by simp only; omega) _)
    exact o3
  · repeat (refine Below.setCell ?_ (by simp only; omega) _)
    exact bC

theorem Ch.acSize_len {ls : List Ch.Ac} {N : Nat} (h : Ch.acSize ls ≤ N) : ls.length ≤ N := by unfold Ch.acSize at h; omega

set_option maxHeartbeats 800000 in
theorem toActS_any (a : Option Addr) (n cap : Nat) (ls : List Ch.Ac) (w : World) (h : AcAt w a n ls) (hs : Ch.acSize ls ≤ 1048576) :
    Calls Try.prog 11 #[.slice a n cap] w fun e w' => e = .returned (.slice (some ⟨w.heap.size, 0, none⟩) n n) ∧ (∃ vs, OwnAc w' w.heap.size (.slice (some ⟨w.heap.size, 0, none⟩) n n) n vs ls) ∧ Below w.heap.size w w' := by
  have HL := h.len
  have hn : n ≤ 1048576 := by have := Ch.acSize_len hs; have := HL.out; omega
  obtain ⟨i0, hi, hz0, hz1, hz2⟩ := info_parts Try.info68
  go_enter Try.func11, Try.ntmps11
  go_wp2_with (at_make; refine wpList_make_full _ rfl _ _ 32 rfl w.heap.size 68 i0 (.agg #[.int .i64 0, .int .i64 0, .int .i64 0, .int .i64 0, .int .i64 0, .slice none 0 0]) 6 Try.underlying32 hi hz0 hz1 .i64 .i64 _ _ n rfl rfl rfl rfl (by rw [hz2]; omega) (by unfold maxLen; omega) (Nat.le_refl _) ?_; intro w0 hown0 hgrow0)
  have hB0 : Below w.heap.size w w0 := (Below.refl _ _).grown hgrow0 (Nat.le_refl _) (by simp)
  go_loopw [4] (fun i wr => ∃ k : Nat, k ≤ n ∧ i = .int .i64 k ∧ (∃ vs, OwnAc wr w.heap.size (.slice (some ⟨w.heap.size, 0, none⟩) n n) n vs (ls.take k ++ List.replicate (n - k) Ch.Ac.zero)) ∧ Below w.heap.size w wr) (fun i _ => n - (intOf i).toNat)
  case atStart => exact ⟨0, Nat.zero_le _, rfl, ⟨_, by simpa using made_acts hown0⟩, hB0⟩
  case round =>
    obtain ⟨k, hk, rfl, ⟨vs, hown⟩, hB⟩ := hrel
    by_cases hlt : k < n
    · have HF : Hid ((ls.take k ++ List.replicate (n - k) Ch.Ac.zero).set k (Ch.acAt ls k) = _) := fill_set ls Ch.Ac.zero Ch.Ac.zero n k HL.out hlt
      have HS := hid (Ch.ac_one hs k)
      obtain ⟨b, off, ai, ni, ci, rfl, hc0, hc1, hc2, hc3, hc4, hc5, hr, hni⟩ := (h.below hB).act hlt
      have HR := hr.ilen
      have hni' : ni ≤ 1048576 := by have := HS.out; have := HR.out; omega
      generalize Ch.acAt ls k = l at *
      obtain ⟨tx, kd, p, q, v, an⟩ := l
      simp only at hc0 hc1 hc2 hc3 hc4 hr HR
      go_wp2_with fail
      refine (toAct_any tx kd p q v ai ni ci an _ hr hni').mono ?_
      rintro e w1 ⟨g, rfl, o1, b1⟩
      have hB1 := hB.trans (b1.mono hB.size)
      have ⟨_, _, ⟨cs, hO, _⟩, _⟩ := hown.below b1
      have hf0 := hO.frozenAt (k * 6)
      have hf1 := hO.frozenAt (k * 6 + 1)
      have hf2 := hO.frozenAt (k * 6 + 2)
      have hf3 := hO.frozenAt (k * 6 + 3)
      have hf4 := hO.frozenAt (k * 6 + 4)
      have hf5 := hO.frozenAt (k * 6 + 5)
      obtain ⟨u0, hd0⟩ := owns_some hO (j := k * 6) (by omega)
      obtain ⟨u1, hd1⟩ := owns_some hO (j := k * 6 + 1) (by omega)
      obtain ⟨u2, hd2⟩ := owns_some hO (j := k * 6 + 2) (by omega)
      obtain ⟨u3, hd3⟩ := owns_some hO (j := k * 6 + 3) (by omega)
      obtain ⟨u4, hd4⟩ := owns_some hO (j := k * 6 + 4) (by omega)
      obtain ⟨u5, hd5⟩ := owns_some hO (j := k * 6 + 5) (by omega)
      clear hO
      go_wp2
      go_roundw
      case rel =>
        refine ⟨k + 1, by omega, by go_num, ⟨vs.set k (.slice (some ⟨g, 0, none⟩) ni ni), ?_⟩, ?_⟩
        · rw [← HF.out]
          refine OwnAc.put (t := ⟨tx, kd, p, q, v, an⟩) hown b1 ?_ hlt hB.size
          have := HR.out
          subst this
          exact o1
        · exact (((((hB1.setCell (Nat.le_refl _) _).setCell (Nat.le_refl _) _).setCell (Nat.le_refl _) _).setCell (Nat.le_refl _) _).setCell (Nat.le_refl _) _).setCell (Nat.le_refl _) _
      case measure => simp [intOf]; omega
    · obtain rfl : k = n := by omega
      go_wp2
      go_ret
      refine ⟨rfl, ⟨vs, ?_⟩, hB⟩
      have := HL.out
      rw [List.take_of_length_le (by omega)] at hown
      simpa using hown

set_option maxHeartbeats 400000 in
theorem eqOp_same (k p q v : Int) (w : World) :
    Calls Try.prog 73 #[.agg #[.int .i64 k, .int .i64 p, .int .i64 q, .int .i64 v], .agg #[.int .i64 k, .int .i64 p, .int .i64 q, .int .i64 v]] w fun e w' => e = .returned (.bool true) ∧ Below w.heap.size w w' := by
  have h0 : (k != k) = false := by simp
  have h1 : (p != p) = false := by simp
  have h2 : (q != q) = false := by simp
  have h3 : (v != v) = false := by simp
  go_enter Try.func73, Try.ntmps73
  go_wp2
  go_ret
  exact ⟨rfl, ((Below.refl _ _).alloc (Nat.le_refl _) _).alloc (by simp) _⟩

set_option maxHeartbeats 400000 in
theorem eqAct_same (tx k p q v : Int) (a a' : Option Addr) (n cap cap' : Nat) (zs : List Int) (w : World) (h : CellsAt w a (n * 1) (icells zs)) (h' : CellsAt w a' (n * 1) (icells zs)) (hn : n ≤ 4194304) :
    Calls Try.prog 47 #[.agg #[.int .i64 tx, .int .i64 k, .int .i64 p, .int .i64 q, .int .i64 v, .slice a n cap], .agg #[.int .i64 tx, .int .i64 k, .int .i64 p, .int .i64 q, .int .i64 v, .slice a' n cap']] w fun e w' => e = .returned (.bool true) ∧ Below w.heap.size w w' := by
  have h0 : (tx != tx) = false := by simp
  have b0 : Below w.heap.size w ((w.alloc (.cells #[.int .i64 tx, .int .i64 k, .int .i64 p, .int .i64 q, .int .i64 v, .slice a n cap] 68)).alloc (.cells #[.int .i64 tx, .int .i64 k, .int .i64 p, .int .i64 q, .int .i64 v, .slice a' n cap'] 68)) := ((Below.refl _ _).alloc (Nat.le_refl _) _).alloc (by simp) _
  go_enter Try.func47, Try.ntmps47
  go_wp2_with fail
  refine (eqOp_same _ _ _ _ _).mono ?_
  rintro e w1 ⟨rfl, b1⟩
  have bA := b0.trans (b1.mono (by simp; omega))
  obtain ⟨cA, fA⟩ := bcell b1
  have x5 := cA w.heap.size 5 (by simp; omega)
  have y5 := cA (w.heap.size + 1) 5 (by simp)
  clear cA fA
  simp [go_sem] at x5 y5
  go_wp2_with fail
  refine (eqInts_same a a' n cap cap' zs _ (h.below bA) (h'.below bA) hn).mono ?_
  rintro e w2 ⟨rfl, b2⟩
  have bB := bA.trans (b2.mono bA.size)
  go_wp2
  go_ret
  exact ⟨rfl, bB⟩

set_option maxHeartbeats 800000 in
theorem eqActS_same (a a' : Option Addr) (n cap cap' : Nat) (ls : List Ch.Ac) (w : World) (h : AcAt w a n ls) (h' : AcAt w a' n ls) (hs : Ch.acSize ls ≤ 1048576) :
    Calls Try.prog 16 #[.slice a n cap, .slice a' n cap'] w fun e w' => e = .returned (.bool true) ∧ Below w.heap.size w w' := by
  have HL := h.len
  have hn : n ≤ 1048576 := by have := Ch.acSize_len hs; have := HL.out; omega
  have hnn : ((n : Int) != n) = false := by simp
  go_enter Try.func16, Try.ntmps16
  go_wp2
  go_loopw [5] (fun i wr => ∃ k : Nat, k ≤ n ∧ i = .int .i64 k ∧ Below w.heap.size w wr) (fun i _ => n - (intOf i).toNat)
  case atStart => exact ⟨0, Nat.zero_le _, rfl, Below.refl _ _⟩
  case round =>
    obtain ⟨k, hk, rfl, hB⟩ := hrel
    by_cases hlt : k < n
    · have HS := hid (Ch.ac_one hs k)
      obtain ⟨b, off, ai, ni, ci, rfl, hc0, hc1, hc2, hc3, hc4, hc5, hr, hni⟩ := (h.below hB).act hlt
      obtain ⟨b', off', ai', ni', ci', rfl, hd0, hd1, hd2, hd3, hd4, hd5, hr', hni'⟩ := (h'.below hB).act hlt
      have HR := hr.ilen
      have HR' := hr'.ilen
      obtain rfl : ni' = ni := HR'.out.trans HR.out.symm
      have hni : ni' ≤ 4194304 := by have := HS.out; have := HR.out; omega
      generalize Ch.acAt ls k = l at *
      obtain ⟨tx, kd, p, q, v, an⟩ := l
      simp only at hc0 hc1 hc2 hc3 hc4 hr hd0 hd1 hd2 hd3 hd4 hr'
      go_wp2
      go_region_with (go_at_call 47; refine (eqAct_same _ _ _ _ _ _ _ _ _ _ an _ (by assumption) (by assumption) hni).mono ?_; rintro e w1 ⟨rfl, b1⟩)
      all_goals
        have b1' : Below wr.heap.size wr _ := ⟨b1.os, b1.tape, b1.output, b1.size, b1.block⟩
        clear b1
        go_wp2
        go_roundw
        case rel => exact ⟨k + 1, by omega, by go_num, hB.trans (b1'.mono hB.size)⟩
        case measure => simp [intOf]; omega
    · obtain rfl : k = n := by omega
      go_wp2
      go_ret
      exact ⟨rfl, hB⟩
end Go.Proofs.Ytlpncikiaojmiaa
