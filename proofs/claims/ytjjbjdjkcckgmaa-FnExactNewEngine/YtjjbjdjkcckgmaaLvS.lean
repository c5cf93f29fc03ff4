
/- Marks of leaves from any number on. -/
import Derived.Test.YtjjbjdjkcckgmaaResL
namespace Go.Proofs.Ytjjbjdjkcckgmaa
open Go.RowKit

def lvMarkS (s0 : Int) (ls : List (List Ch.Row)) (k : Nat) : List Ch.Row := rmarks (s0 + 3 * (Ch.before ls k : Int)) (ls.getD k []).length
def lvMarksS (s0 : Int) (ls : List (List Ch.Row)) : List (List Ch.Row) := (List.range ls.length).map (lvMarkS s0 ls)
def lvMarkedS (s0 : Int) (ls : List (List Ch.Row)) (k : Nat) : List (List Ch.Row) := (List.range k).map (lvMarkS s0 ls) ++ ls.drop k
theorem lvMarked_setS (s0 : Int) (ls : List (List Ch.Row)) (k : Nat) (h : k < ls.length) : (lvMarkedS s0 ls k).set k (lvMarkS s0 ls k) = lvMarkedS s0 ls (k + 1) := by
  unfold lvMarkedS
  rw [Ch.set_mid _ _ _ _ (by simp) h, List.range_succ]
  simp
theorem lvMarked_atS (s0 : Int) (ls : List (List Ch.Row)) (k : Nat) : (lvMarkedS s0 ls k).getD k [] = ls.getD k [] := by
  unfold lvMarkedS
  rw [List.getD, List.getElem?_append_right (by simp)]
  simp [List.getD]
theorem lvMarks_atS (s0 : Int) (ls : List (List Ch.Row)) (k : Nat) (h : k < ls.length) : (lvMarksS s0 ls).getD k [] = lvMarkS s0 ls k := by
  simp [lvMarksS, List.getD, h]
theorem lvMarks_lenS (s0 : Int) (ls : List (List Ch.Row)) : (lvMarksS s0 ls).length = ls.length := by simp [lvMarksS]
theorem lvMark_lenS (s0 : Int) (ls : List (List Ch.Row)) (k : Nat) : (lvMarkS s0 ls k).length = (ls.getD k []).length := by simp [lvMarkS, rmarks_len]

set_option maxHeartbeats 400000 in
theorem markLeafS_S (s0 : Int) (hs0 : 0 < s0) (hs1 : s0 ≤ 1000000000) (B lo hi : Nat) (a : Option Addr) (n cap : Nat) (vs : List Value) (ls : List (List Ch.Row)) (w : World) (h : OwnV w B (.slice a n cap) n vs ls) (hlt0 : ∀ (i : Nat) (x : Value) (g : Nat), vs[i]? = some x → x.ownBlock = some g → lo ≤ g ∧ g < hi) (hs : Ch.lvSize ls ≤ 1048576) :
    Calls Try.prog 45 #[.slice a n cap, .int .i64 s0] w fun e w' => e = .returned (.int .i64 (s0 + 3 * (Ch.before ls n : Int))) ∧ OwnV w' B (.slice a n cap) n vs (lvMarksS s0 ls) ∧ Within lo hi w w' := by
  have HL : Hid (ls.length = n) := h.1
  have hn : n ≤ 1048576 := by unfold Ch.lvSize at hs; have := HL.out; omega
  go_enter Try.func45, Try.ntmps45
  go_wp2
  go_loopw [1, 5] (fun q i wr => ∃ k : Nat, k ≤ n ∧ i = .int .i64 k ∧ q = .int .i64 (s0 + 3 * (Ch.before ls k : Int)) ∧ OwnV wr B (.slice a n cap) n vs (lvMarkedS s0 ls k) ∧ Within lo hi w wr) (fun _ i _ => n - (intOf i).toNat)
  case atStart => exact ⟨0, Nat.zero_le _, rfl, by simp [Ch.before], by simpa [lvMarkedS] using h, Within.refl _ _ _⟩
  case round =>
    obtain ⟨k, hk, rfl, rfl, own, hW⟩ := hrel
    by_cases hlt : k < n
    · have hkl : k < ls.length := by have := HL.out; omega
      have HS := hid (Ch.lv_leaf hs k)
      have HB := hid (Ch.before_next ls k hkl)
      have hbs := Ch.before_small hs k
      have HM := hid (lvMarked_setS s0 ls k hkl)
      have HK : Hid (lvMarkS s0 ls k = rmarks (s0 + 3 * (Ch.before ls k : Int)) (ls.getD k []).length) := rfl
      have HWs := hid hW.size
      obtain ⟨b, ai, ci, rfl, hbl, hc, hvk, ho, hput⟩ := own.leafAt hlt
      rw [lvMarked_atS s0 ls k] at hc hvk ho hput
      generalize ls.getD k [] = l at *
      generalize Ch.before ls k = q at *
      go_wp2_with fail
      refine (markRowS_own (s0 + 3 * (q : Int)) B l.length ai ci l _ (by omega) (by omega) ho (by have := HS.out; omega)).mono ?_
      rintro e w1 ⟨rfl, own1, gr1⟩
      go_wp2
      go_roundw
      case rel =>
        refine ⟨k + 1, by omega, by go_num, by rw [HB.out]; simp; omega, ?_, ?_⟩
        · rw [← HM.out]
          refine hput _ _ gr1 (by rw [HK.out, rmarks_len]) ?_
          rw [HK.out, rmarks_len]
          exact own1
        · rcases ho.2 with ⟨hv, _⟩ | ⟨g, cp, cur, hv, _⟩
          · rw [hv] at gr1
            exact hW.trans ⟨gr1.os, gr1.tape, gr1.output, gr1.size, fun j hj _ => gr1.block j hj (by simp [Value.ownBlock])⟩
          · have hgb := hlt0 k _ g hvk (by rw [hv]; rfl)
            rw [hv] at gr1
            exact hW.trans (within_grown gr1 hgb.1 hgb.2)
      case measure => simp [intOf]; omega
    · obtain rfl : k = n := by omega
      go_wp2
      go_ret
      refine ⟨rfl, ?_, hW⟩
      have e := HL.out
      subst e
      simpa [lvMarkedS, lvMarksS] using own

set_option maxHeartbeats 400000 in
theorem heldLeafS_S (s0 : Int) (hs0 : 0 < s0) (hs1 : s0 ≤ 1000000000) (a : Option Addr) (n cap : Nat) (ls : List (List Ch.Row)) (w : World) (h : LvAt w a n (lvMarksS s0 ls)) (hs : Ch.lvSize ls ≤ 1048576) :
    Calls Try.prog 52 #[.slice a n cap, .int .i64 s0] w fun e w' => e = .returned (.int .i64 (s0 + 3 * (Ch.before ls n : Int))) ∧ w' = w := by
  have HL : Hid (n = ls.length) := h.len.out.trans (lvMarks_lenS s0 ls)
  have hn : n ≤ 1048576 := by unfold Ch.lvSize at hs; have := HL.out; omega
  go_enter Try.func52, Try.ntmps52
  go_wp2
  go_loop [1, 5] (fun q i => ∃ k : Nat, k ≤ n ∧ i = .int .i64 k ∧ q = .int .i64 (s0 + 3 * (Ch.before ls k : Int))) (fun _ i => n - (intOf i).toNat)
  case atStart => exact ⟨0, Nat.zero_le _, rfl, by simp [Ch.before]⟩
  case round =>
    obtain ⟨k, hk, rfl, rfl⟩ := hrel
    by_cases hlt : k < n
    · have hkl : k < ls.length := by have := HL.out; omega
      have HS := hid (Ch.lv_leaf hs k)
      have HB := hid (Ch.before_next ls k hkl)
      have hbs := Ch.before_small hs k
      obtain ⟨b, off, ai, ni, ci, rfl, hc, hr, hni⟩ := h.leaf hlt
      rw [lvMarks_atS s0 ls k hkl] at hr
      have HR := hr.rlen
      have HML := hid (lvMark_lenS s0 ls k)
      have HN : Hid (ni = (ls.getD k []).length) := HR.out.trans HML.out
      have hr2 : CellsAt w ai (ni * 3) (rcells (rmarks (s0 + 3 * (Ch.before ls k : Int)) ni)) := by
        have e : lvMarkS s0 ls k = rmarks (s0 + 3 * (Ch.before ls k : Int)) ni := by rw [HN.out]; rfl
        rw [e] at hr
        exact hr
      have hni2 : ni ≤ 1048579 := by have := HS.out; have := HN.out; omega
      generalize Ch.before ls k = q at *
      have hge : ¬ (s0 + 3 * (q : Int) + 3 * (ni : Int)) < 0 := by omega
      go_wp2_with fail
      refine (heldRowS_any (s0 + 3 * (q : Int)) ai ni ci _ (by omega) (by omega) hr2 hni2).mono ?_
      rintro e w1 ⟨rfl, rfl⟩
      go_wp2
      go_round
      case rel => exact ⟨k + 1, by omega, by go_num, by rw [HB.out, ← HN.out]; simp; omega⟩
      case measure => simp [intOf]; omega
    · obtain rfl : k = n := by omega
      go_wp2
      go_ret
      exact ⟨rfl, rfl⟩

end Go.Proofs.Ytjjbjdjkcckgmaa
