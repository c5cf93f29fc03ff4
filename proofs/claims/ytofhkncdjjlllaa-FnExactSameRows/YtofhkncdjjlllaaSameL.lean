
/- The law FnExactSameRows. -/
import Derived.Test.YtofhkncdjjlllaaSameI
import Derived.Test.YtofhkncdjjlllaaLvL
namespace Go.Proofs.Ytofhkncdjjlllaa
open Go.RowKit

/-- What is left of a budget behind leaves. -/
def Ch.lvLeftM (M : Nat) (ls : List (List Ch.Row)) : Int := if Ch.lvSize ls ≤ M then (M : Int) - (Ch.lvSize ls : Int) else -1
theorem Ch.lvLeftM_big {M : Nat} {ls : List (List Ch.Row)} (h : M < Ch.lvSize ls) : -1 = Ch.lvLeftM M ls := by
  rw [Ch.lvLeftM, if_neg (by omega)]

set_option maxHeartbeats 400000 in
theorem szLeafS_from (a : Option Addr) (n cap : Nat) (ls : List (List Ch.Row)) (w : World) (h : LvAt w a n ls) (hm : n ≤ 9223372036854775807) (M0 : Nat) (hM : M0 ≤ 1048576) :
    Calls Try.prog 36 #[.slice a n cap, .int .i64 M0] w fun e w' => e = .returned (.int .i64 (Ch.lvLeftM M0 ls)) ∧ Below w.heap.size w w' := by
  have HL := h.len
  by_cases hn : M0 < n
  · go_enter Try.func36, Try.ntmps36
    go_wp2
    go_ret
    exact ⟨ret_int (Ch.lvLeftM_big (by unfold Ch.lvSize; have := HL.out; omega)), Below.refl _ _⟩
  have hn' : n ≤ M0 := by omega
  clear hn
  go_enter Try.func36, Try.ntmps36
  go_wp2
  go_loopw [1, 5] (fun q i wr => ∃ k L : Nat, k ≤ n ∧ L ≤ 1048576 ∧ i = .int .i64 k ∧ q = .int .i64 L ∧ Hid (L + n + ((ls.take k).map List.length).sum = M0) ∧ Below w.heap.size w wr) (fun _ i _ => n - (intOf i).toNat)
  case atStart => exact ⟨0, M0 - n, Nat.zero_le _, by omega, rfl, by go_num, (by show _ = _; simp; omega), Below.refl _ _⟩
  case round =>
    obtain ⟨k, L, hk, hL, rfl, rfl, HS, hB⟩ := hrel
    by_cases hlt : k < n
    · have HT := hid (Ch.lv_take ls k (by have := HL.out; omega))
      have HE := hid (Ch.lv_le ls (k + 1))
      obtain ⟨b, off, ai, ni, ci, rfl, hc, hr, hni⟩ := (h.below hB).leaf hlt
      have HR := hr.rlen
      generalize ls.getD k [] = l at *
      by_cases hle : ni ≤ L
      · go_wp2_with fail
        refine (szLeaf_any ai ni ci L _ hL hni).mono ?_
        rintro e w1 ⟨rfl, b1⟩
        have hB1 := hB.trans (b1.mono hB.size)
        rw [if_pos hle]
        obtain ⟨M, rfl⟩ : ∃ M, L = ni + M := ⟨L - ni, by omega⟩
        rw [show ((ni + M : Nat) : Int) - (ni : Int) = (M : Int) by omega]
        clear hle
        go_wp2
        go_roundw
        case rel => exact ⟨k + 1, M, by omega, by omega, by go_num, rfl, (by have h1 := HS.out; have h2 := HT.out; have h3 := HR.out; show _ = _; omega), hB1⟩
        case measure => simp [intOf]; omega
      · go_wp2_with fail
        refine (szLeaf_any ai ni ci L _ hL hni).mono ?_
        rintro e w1 ⟨rfl, b1⟩
        have hB1 := hB.trans (b1.mono hB.size)
        rw [if_neg hle]
        go_wp2
        go_ret
        exact ⟨ret_int (Ch.lvLeftM_big (by unfold Ch.lvSize; have h0 := HL.out; have h1 := HS.out; have h2 := HT.out; have h3 := HR.out; have h4 := HE.out; omega)), hB1⟩
    · obtain rfl : k = n := by omega
      go_wp2
      go_ret
      refine ⟨ret_int ?_, hB⟩
      have h0 := HL.out
      have h1 := HS.out
      rw [List.take_of_length_le (by omega)] at h1
      rw [Ch.lvLeftM, if_pos (by unfold Ch.lvSize; omega)]
      unfold Ch.lvSize
      omega

set_option maxHeartbeats 800000 in
theorem lawSameRows_any (a a1 : Option Addr) (n cap n1 cap1 : Nat) (ls ms : List (List Ch.Row)) (w : World) (h : LvAt w a n ls) (h1 : LvAt w a1 n1 ms) (hm : n ≤ 9223372036854775807) (hm1 : n1 ≤ 9223372036854775807) :
    Calls Try.prog 10 #[.slice a n cap, .slice a1 n1 cap1] w fun e w' => e = .returned (.bool true) ∧ Below w.heap.size w w' := by
  by_cases hbig : 1048576 < Ch.lvSize ls
  · go_enter Try.func10, Try.ntmps10
    go_wp2_with fail
    refine (szLeafS_any a n cap ls _ h hm).mono ?_
    rintro e w1 ⟨rfl, b1⟩
    rw [← Ch.lvLeft_big hbig]
    go_wp2
    go_ret
    exact ⟨rfl, b1⟩
  have hs : Ch.lvSize ls ≤ 1048576 := by omega
  have hl : Ch.lvLeft ls = ((1048576 - Ch.lvSize ls : Nat) : Int) := by rw [Ch.lvLeft, if_pos hs]; omega
  by_cases hbig2 : 1048576 - Ch.lvSize ls < Ch.lvSize ms
  · go_enter Try.func10, Try.ntmps10
    go_wp2_with fail
    refine (szLeafS_any a n cap ls _ h hm).mono ?_
    rintro e w1 ⟨rfl, b1⟩
    rw [hl]
    have SZ := fun W hW => szLeafS_from a1 n1 cap1 ms W hW hm1 (1048576 - Ch.lvSize ls) (by omega)
    rw [← Ch.lvLeftM_big hbig2] at SZ
    generalize 1048576 - Ch.lvSize ls = M at *
    go_wp2_with fail
    refine (SZ _ (h1.below b1)).mono ?_
    rintro e w2 ⟨rfl, b2⟩
    go_wp2
    go_ret
    exact ⟨rfl, b1.trans (b2.mono b1.size)⟩
  have hs1 : Ch.lvSize ms ≤ 1048576 := by omega
  have hsa := small_at hs
  have hsa1 := small_at hs1
  have hlm : Ch.lvLeftM (1048576 - Ch.lvSize ls) ms = ((1048576 - Ch.lvSize ls - Ch.lvSize ms : Nat) : Int) := by rw [Ch.lvLeftM, if_pos (by omega)]; omega
  have SZ := fun W hW => szLeafS_from a1 n1 cap1 ms W hW hm1 (1048576 - Ch.lvSize ls) (by omega)
  rw [hlm] at SZ
  have SI := fun (W : World) (A A1 : Option Addr) (hW : LvAt W A n ls) (hW1 : LvAt W A1 n1 ms) => specSame_any A A1 n n n1 n1 ls ms W hW hW1 hs hs1
  have II := fun (W : World) (A A1 : Option Addr) (hW : LvAt W A n ls) (hW1 : LvAt W A1 n1 ms) => implSame_any A A1 n n n1 n1 ls ms W hW hW1 hs hs1
  generalize Ch.sameR ls ms = q at SI II
  have hqq : (q != q) = false := by simp
  clear hlm
  go_enter Try.func10, Try.ntmps10
  go_wp2_with fail
  refine (szLeafS_any a n cap ls _ h hm).mono ?_
  rintro e w0 ⟨rfl, b0⟩
  rw [hl]
  generalize 1048576 - Ch.lvSize ls - Ch.lvSize ms = M2 at *
  generalize 1048576 - Ch.lvSize ls = M at *
  go_wp2_with fail
  refine (SZ _ (h1.below b0)).mono ?_
  rintro e w1 ⟨rfl, b1⟩
  have b1 := b0.trans (b1.mono b0.size)
  go_wp2_with fail
  refine (toLeafS_any a n cap ls _ (h.below b1) hs).mono ?_
  rintro e w2 ⟨rfl, o2, b2⟩
  have b2' := b1.trans (b2.mono b1.size)
  go_wp2_with fail
  refine (toLeafS_any a1 n1 cap1 ms _ (h1.below b2') hs1).mono ?_
  rintro e w3 ⟨rfl, o3, b3⟩
  have b3' := b2'.trans (b3.mono b2'.size)
  have o2 := o2.below b3
  go_wp2_with fail
  refine (SI _ _ _ (o2.at hsa) (o3.at hsa1)).mono ?_
  rintro e w4 ⟨rfl, b4⟩
  have b4' := b3'.trans (b4.mono b3'.size)
  clear o2 o3 b0 b1 b2 b3 b4 b2' b3'
  go_wp2_with fail
  refine (toLeafS_any a n cap ls _ (h.below b4') hs).mono ?_
  rintro e w5 ⟨rfl, o5, b5⟩
  have b5' := b4'.trans (b5.mono b4'.size)
  go_wp2_with fail
  refine (toLeafS_any a1 n1 cap1 ms _ (h1.below b5') hs1).mono ?_
  rintro e w6 ⟨rfl, o6, b6⟩
  have b6' := b5'.trans (b6.mono b5'.size)
  have o5 := o5.below b6
  go_wp2_with fail
  refine (II _ _ _ (o5.at hsa) (o6.at hsa1)).mono ?_
  rintro e w7 ⟨rfl, b7⟩
  have b7' := b6'.trans (b7.mono b6'.size)
  have o5 := o5.below b7
  have o6 := o6.below b7
  clear b4' b5' b6' b5 b6 b7
  go_wp2_with fail
  refine (toLeafS_any a n cap ls _ (h.below b7') hs).mono ?_
  rintro e w8 ⟨rfl, o8, b8⟩
  have b8' := b7'.trans (b8.mono b7'.size)
  have o5 := o5.below b8
  have o6 := o6.below b8
  go_wp2_with fail
  refine (eqLeafS_same _ _ n n n ls _ (o5.at hsa) (o8.at hsa) hs).mono ?_
  rintro e w9 ⟨rfl, b9⟩
  have b9' := b8'.trans (b9.mono b8'.size)
  have o6 := o6.below b9
  clear o5 o8
  go_wp2_with fail
  refine (toLeafS_any a1 n1 cap1 ms _ (h1.below b9') hs1).mono ?_
  rintro e w10 ⟨rfl, o10, b10⟩
  have b10' := b9'.trans (b10.mono b9'.size)
  have o6 := o6.below b10
  go_wp2_with fail
  refine (eqLeafS_same _ _ n1 n1 n1 ms _ (o6.at hsa1) (o10.at hsa1) hs1).mono ?_
  rintro e w11 ⟨rfl, b11⟩
  go_wp2
  go_ret
  exact ⟨rfl, b10'.trans (b11.mono b10'.size)⟩
end Go.Proofs.Ytofhkncdjjlllaa
