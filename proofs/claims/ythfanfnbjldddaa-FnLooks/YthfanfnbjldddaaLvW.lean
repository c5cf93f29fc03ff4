
/- Walks of the laws' functions on leaves: sizes, copies, comparisons. -/
import Derived.Test.YthfanfnbjldddaaLvB
namespace Go.Proofs.Ythfanfnbjldddaa
open Go.RowKit

theorem Try.info107 : (Try.prog.info? 107).map (fun i => (i.zero, i.size, i.bytes)) = some (some (.agg #[.slice none 0 0]), 1, 24) := by kernel_rfl

theorem szLeaf_any (a : Option Addr) (n cap L : Nat) (w : World) (hL : L ≤ 1048576) (hm : n ≤ 9223372036854775807) :
    Calls Try.prog 88 #[.agg #[.slice a n cap], .int .i64 L] w fun e w' => e = .returned (.int .i64 (if n ≤ L then (L : Int) - n else -1)) ∧ Below w.heap.size w w' := by
  by_cases h : n ≤ L
  · go_enter Try.func88, Try.ntmps88
    go_wp2_with fail
    refine (sz_from a n cap L _ hL hm).mono ?_
    rintro e w1 ⟨rfl, rfl⟩
    rw [if_pos h]
    go_wp2
    go_ret
    exact ⟨rfl, (Below.refl _ _).alloc (Nat.le_refl _) _⟩
  · go_enter Try.func88, Try.ntmps88
    go_wp2_with fail
    refine (sz_from a n cap L _ hL hm).mono ?_
    rintro e w1 ⟨rfl, rfl⟩
    rw [if_neg h]
    go_wp2
    go_ret
    exact ⟨rfl, (Below.refl _ _).alloc (Nat.le_refl _) _⟩

/-- What leaves take of the size that is left. -/
def Ch.lvSize (ls : List (List Ch.Row)) : Nat := ls.length + (ls.map List.length).sum
/-- What is left; -1: they are too big. -/
def Ch.lvLeft (ls : List (List Ch.Row)) : Int := if Ch.lvSize ls ≤ 1048576 then 1048576 - (Ch.lvSize ls : Int) else -1
theorem Ch.lvLeft_big {ls : List (List Ch.Row)} (h : 1048576 < Ch.lvSize ls) : -1 = Ch.lvLeft ls := by
  rw [Ch.lvLeft, if_neg (by omega)]

theorem Ch.lv_take (ls : List (List Ch.Row)) (k : Nat) (h : k < ls.length) : ((ls.take (k + 1)).map List.length).sum = ((ls.take k).map List.length).sum + (ls.getD k []).length := by
  rw [Ch.take_snoc ls [] k h]; simp
theorem Ch.lv_le (ls : List (List Ch.Row)) (k : Nat) : ((ls.take k).map List.length).sum ≤ (ls.map List.length).sum := by
  induction ls generalizing k with
  | nil => simp
  | cons l ls ih =>
    cases k with
    | zero => simp
    | succ k => have := ih k; simp only [List.take_succ_cons, List.map_cons, List.sum_cons]; omega
theorem Ch.lv_leaf {ls : List (List Ch.Row)} {N : Nat} (h : Ch.lvSize ls ≤ N) (i : Nat) : (ls.getD i []).length ≤ N := by
  by_cases hi : i < ls.length
  · have h1 := Ch.lv_take ls i hi
    have h2 := Ch.lv_le ls (i + 1)
    unfold Ch.lvSize at h
    omega
  · simp [List.getD, List.getElem?_eq_none (show ls.length ≤ i by omega)]

set_option maxHeartbeats 400000 in
theorem szLeafS_any (a : Option Addr) (n cap : Nat) (ls : List (List Ch.Row)) (w : World) (h : LvAt w a n ls) (hm : n ≤ 9223372036854775807) :
    Calls Try.prog 36 #[.slice a n cap, .int .i64 1048576] w fun e w' => e = .returned (.int .i64 (Ch.lvLeft ls)) ∧ Below w.heap.size w w' := by
  have HL := h.len
  by_cases hn : 1048576 < n
  · go_enter Try.func36, Try.ntmps36
    go_wp2
    go_ret
    exact ⟨ret_int (Ch.lvLeft_big (by unfold Ch.lvSize; have := HL.out; omega)), Below.refl _ _⟩
  have hn' : n ≤ 1048576 := by omega
  clear hn
  go_enter Try.func36, Try.ntmps36
  go_wp2
  go_loopw [1, 5] (fun q i wr => ∃ k L : Nat, k ≤ n ∧ L ≤ 1048576 ∧ i = .int .i64 k ∧ q = .int .i64 L ∧ Hid (L + n + ((ls.take k).map List.length).sum = 1048576) ∧ Below w.heap.size w wr) (fun _ i _ => n - (intOf i).toNat)
  case atStart => exact ⟨0, 1048576 - n, Nat.zero_le _, by omega, rfl, by go_num, (by show _ = _; simp; omega), Below.refl _ _⟩
  case round =>
    obtain ⟨k, L, hk, hL, rfl, rfl, HS, hB⟩ := hrel
    by_cases hlt : k < n
    · have HT := hid (Ch.lv_take ls k (by have := HL.out; omega))
      have HE := hid (Ch.lv_le ls (k + 1))
      obtain ⟨b, off, ai, ni, ci, rfl, hc, hr, hni⟩ := (h.below hB).leaf hlt
      have HR := hr.rlen
      generalize ls.getD k [] = l at *
      by_cases hle : ni ≤ L
      · go_wp2_with fail
        refine (szLeaf_any ai ni ci L _ hL hni).mono ?_
        rintro e w1 ⟨rfl, b1⟩
        have hB1 := hB.trans (b1.mono hB.size)
        rw [if_pos hle]
        obtain ⟨M, rfl⟩ : ∃ M, L = ni + M := ⟨L - ni, by omega⟩
        rw [show ((ni + M : Nat) : Int) - (ni : Int) = (M : Int) by omega]
        clear hle
        go_wp2
        go_roundw
        case rel => exact ⟨k + 1, M, by omega, by omega, by go_num, rfl, (by have h1 := HS.out; have h2 := HT.out; have h3 := HR.out; show _ = _; omega), hB1⟩
        case measure => simp [intOf]; omega
      · go_wp2_with fail
        refine (szLeaf_any ai ni ci L _ hL hni).mono ?_
        rintro e w1 ⟨rfl, b1⟩
        have hB1 := hB.trans (b1.mono hB.size)
        rw [if_neg hle]
        go_wp2
        go_ret
        exact ⟨ret_int (Ch.lvLeft_big (by unfold Ch.lvSize; have h0 := HL.out; have h1 := HS.out; have h2 := HT.out; have h3 := HR.out; have h4 := HE.out; omega)), hB1⟩
    · obtain rfl : k = n := by omega
      go_wp2
      go_ret
      refine ⟨ret_int ?_, hB⟩
      have h0 := HL.out
      have h1 := HS.out
      rw [List.take_of_length_le (by omega)] at h1
      rw [Ch.lvLeft, if_pos (by unfold Ch.lvSize; omega)]
      unfold Ch.lvSize
      omega

theorem made_leaves {w : World} {B n : Nat} {v : Value} (h : w.ownsRow B 107 1 v n (madeCells (Value.agg #[.slice none 0 0]).cells (n * 1)).toList) : OwnLv w B v n (List.replicate n []) := by
  have e : (madeCells (Value.agg #[.slice none 0 0]).cells (n * 1)).toList = List.replicate n (Value.slice none 0 0) := by
    apply List.ext_getElem?
    intro j
    by_cases hj : j < n
    · simp [madeCells, Value.cells, hj, Nat.mod_one]
    · rw [List.getElem?_eq_none (by simp [madeCells]; omega), List.getElem?_eq_none (by simp; omega)]
  rw [e] at h
  have hx : ∀ (i : Nat) (x : Value), (List.replicate n (Value.slice none 0 0))[i]? = some x → x = .slice none 0 0 := by
    intro i x hi
    rw [List.getElem?_replicate] at hi
    split at hi
    · cases hi; rfl
    · cases hi
  refine ⟨by simp, _, h, fun i hi => ⟨.slice none 0 0, by simp [hi], ?_⟩, ?_, ?_⟩
  · have e' : (List.replicate n ([] : List Ch.Row)).getD i [] = [] := by simp [List.getD, hi]
    rw [e']
    exact World.ownsRow_nil _ _ _ _
  · intro i j x y g _ hi hj hg
    rw [hx i x hi] at hg
    simp [Value.ownBlock] at hg
  · intro i x g hi _ hg
    rw [hx i x hi] at hg
    simp [Value.ownBlock] at hg

theorem toRowS_at (H : Nat) (a : Option Addr) (n cap : Nat) (rs : List Ch.Row) (w : World) (hH : w.heap.size = H) (h : CellsAt w a (n * 3) (rcells rs)) (hn : n ≤ 1048576) :
    Calls Try.prog 123 #[.slice a n cap] w fun e w' => e = .returned (.slice (some ⟨H, 0, none⟩) n n) ∧
      w'.ownsRow H 105 3 (.slice (some ⟨H, 0, none⟩) n n) n (rcells rs) ∧ Below w.heap.size w w' := by
  subst hH
  exact toRowS_any a n cap rs w h hn

set_option linter.unusedSimpArgs false in
set_option maxHeartbeats 400000 in
theorem toLeaf_any (a : Option Addr) (n cap : Nat) (rs : List Ch.Row) (w : World) (h : CellsAt w a (n * 3) (rcells rs)) (hn : n ≤ 1048576) :
    Calls Try.prog 90 #[.agg #[.slice a n cap]] w fun e w' => ∃ g, e = .returned (.agg #[.slice (some ⟨g, 0, none⟩) n n]) ∧ w'.ownsRow w.heap.size 105 3 (.slice (some ⟨g, 0, none⟩) n n) n (rcells rs) ∧ Below w.heap.size w w' := by
  have b0 : Below w.heap.size w (((w.alloc (.cells #[.slice a n cap] 123)).alloc (.cells #[.slice none 0 0] 107)).alloc (.cells #[.slice none 0 0] 107)) := by
    refine Below.alloc (Below.alloc (Below.alloc (Below.refl _ w) (Nat.le_refl _) _) ?_ _) ?_ _
    · simp
    · simp; omega
  go_enter Try.func90, Try.ntmps90
  go_wp2_with fail
  refine (toRowS_at (w.heap.size + 3) a n cap rs _ (by simp) (h.below b0) hn).mono ?_
  rintro e w1 ⟨rfl, o1, b1⟩
  have b1' := b0.trans (b1.mono b0.size)
  obtain ⟨cA, fA⟩ := bcell b1
  have y0 := cA (w.heap.size + 1) 0 (by simp)
  have z0 := cA (w.heap.size + 2) 0 (by simp)
  have fy0 := fA (w.heap.size + 1) 0 (by simp)
  have fz0 := fA (w.heap.size + 2) 0 (by simp)
  clear cA fA
  simp [go_sem] at y0 z0 fy0 fz0
  have hz : w.heap.size + 3 < w1.heap.size := (owns_bounds o1).2
  go_wp2
  refine bodyPost_ret (v := .agg #[.slice (some ⟨w.heap.size + 3, 0, none⟩) n n]) (by simp [results, Try.results90, go_sem, y0, z0]) rfl ⟨_, rfl, ?_, ?_⟩
  · exact owns_base (ownsRow_setCell_below (a := ⟨w.heap.size + 1, 0, none⟩) (ownsRow_setCell_below (a := ⟨w.heap.size + 2, 0, none⟩) o1 (by simp) _) (by simp) _) (by omega)
  · exact (b1'.setCell (p := ⟨w.heap.size + 2, 0, none⟩) (by simp) _).setCell (p := ⟨w.heap.size + 1, 0, none⟩) (by simp) _

set_option maxHeartbeats 400000 in
theorem toLeafS_any (a : Option Addr) (n cap : Nat) (ls : List (List Ch.Row)) (w : World) (h : LvAt w a n ls) (hs : Ch.lvSize ls ≤ 1048576) :
    Calls Try.prog 38 #[.slice a n cap] w fun e w' => e = .returned (.slice (some ⟨w.heap.size, 0, none⟩) n n) ∧ OwnLv w' w.heap.size (.slice (some ⟨w.heap.size, 0, none⟩) n n) n ls ∧ Below w.heap.size w w' := by
  have HL := h.len
  have hn : n ≤ 1048576 := by unfold Ch.lvSize at hs; have := HL.out; omega
  obtain ⟨i0, hi, hz0, hz1, hz2⟩ := info_parts Try.info107
  go_enter Try.func38, Try.ntmps38
  go_wp2_with (at_make; refine wpList_make_full _ rfl _ _ 24 rfl w.heap.size 107 i0 (.agg #[.slice none 0 0]) 1 Try.underlying24 hi hz0 hz1 .i64 .i64 _ _ n rfl rfl rfl rfl (by rw [hz2]; omega) (by unfold maxLen; omega) (Nat.le_refl _) ?_; intro w0 hown0 hgrow0)
  have hB0 : Below w.heap.size w w0 := (Below.refl _ _).grown hgrow0 (Nat.le_refl _) (by simp)
  go_loopw [4] (fun i wr => ∃ k : Nat, k ≤ n ∧ i = .int .i64 k ∧ OwnLv wr w.heap.size (.slice (some ⟨w.heap.size, 0, none⟩) n n) n (ls.take k ++ List.replicate (n - k) []) ∧ Below w.heap.size w wr) (fun i _ => n - (intOf i).toNat)
  case atStart => exact ⟨0, Nat.zero_le _, rfl, by simpa using made_leaves hown0, hB0⟩
  case round =>
    obtain ⟨k, hk, rfl, hown, hB⟩ := hrel
    by_cases hlt : k < n
    · have HF := hid (fill_set ls [] [] n k HL.out hlt)
      have HS := hid (Ch.lv_leaf hs k)
      obtain ⟨b, off, ai, ni, ci, rfl, hc, hr, hni⟩ := (h.below hB).leaf hlt
      have HR := hr.rlen
      have hni' : ni ≤ 1048576 := by have := HS.out; have := HR.out; omega
      generalize ls.getD k [] = l at *
      go_wp2_with fail
      refine (toLeaf_any ai ni ci l _ hr hni').mono ?_
      rintro e w1 ⟨g, rfl, o1, b1⟩
      have hB1 := hB.trans (b1.mono hB.size)
      have ⟨_, vs, hO, _⟩ := hown.below b1
      have hf0 := hO.frozenAt k
      obtain ⟨u0, hd0⟩ := owns_some hO (j := k) (by omega)
      clear hO
      go_wp2
      go_roundw
      case rel =>
        refine ⟨k + 1, by omega, by go_num, ?_, ?_⟩
        · rw [← HF.out]
          refine OwnLv.put hown b1 ?_ hlt hB.size
          have := HR.out
          subst this
          exact o1
        · exact hB1.setCell (Nat.le_refl _) _
      case measure => simp [intOf]; omega
    · obtain rfl : k = n := by omega
      go_wp2
      go_ret
      refine ⟨rfl, ?_, hB⟩
      have := HL.out
      rw [List.take_of_length_le (by omega)] at hown
      simpa using hown

end Go.Proofs.Ythfanfnbjldddaa
