/- WordsOf of the model. -/
import Derived.Test.YtalhmogaogaekaaDoorStrA
import Derived.Lib.SmallJoins
namespace Go.Proofs.YtalhmogaogaekaaDoor
open Go.RowKit

theorem new_strS (w : World) (r : ByteArray) (t : TypeId) : CellsAt (w.alloc (.cells #[.string r] t)) (some ⟨w.heap.size, 0, none⟩) (1 * 1) (scells [r]) := by
  refine ⟨rfl, fun _ => ⟨w.heap.size, 0, rfl, fun i hi => ?_⟩⟩
  obtain rfl : i = 0 := by omega
  simp [go_sem, scells]
theorem own_emptyS (w : World) (B : Nat) (e : TypeId) (size : Nat) (hB : B ≤ w.heap.size) : (w.alloc (.cells #[] e)).ownsRow B e size (.slice (some ⟨w.heap.size, 0, none⟩) 0 0) 0 [] :=
  World.ownsRow_lit w #[] 0 hB (by unfold maxLen; omega) (by simp)
theorem mkB_extract (s : ByteArray) (f i : Nat) : s.extract f i = Ch.mkB ((s.data.toList.drop f).take (i - f)) := by
  have h : (s.extract f i).data.toList = (s.data.toList.drop f).take (i - f) := Lib.extract_data s f i
  have : (s.extract f i).data = ((s.data.toList.drop f).take (i - f)).toArray := Array.toList_inj.1 (by rw [h])
  exact congrArg ByteArray.mk this

set_option linter.unusedSimpArgs false in
set_option maxRecDepth 20000 in
set_option maxHeartbeats 2000000 in
theorem specCut_any (s : ByteArray) (w : World) (hs : s.size ≤ 1048576) :
    Calls Tryd.prog 38 #[.string s, .int .u8 32] w fun e w' => ∃ a' n c', e = .returned (.slice a' n c') ∧ n ≤ 1048577 ∧ w'.ownsRow w.heap.size 9 1 (.slice a' n c') n (scells (Ch.pieces s)) ∧ Below w.heap.size w w' := by
  obtain ⟨i0, hi0, hz0, hz1, hz2⟩ := info_parts Tryd.infoS
  have own0 := own_emptyS w w.heap.size 9 1 (Nat.le_refl _)
  have bb0 : Below w.heap.size w (w.alloc (.cells #[] 9)) := (Below.refl _ _).alloc (Nat.le_refl _) _
  have hsz : s.data.toList.length = s.size := by rw [Array.length_toList]; rfl
  replace hsz := hid hsz
  go_enter Tryd.func38, Tryd.ntmps38
  go_wp2
  go_loopw [5, 6, 7] (fun v f i wr => ∃ (k fr n : Nat) (a' : Option Addr) (c' : Nat) (ps : List (List UInt8)), fr ≤ k ∧ k ≤ s.size + 1 ∧ n ≤ k ∧ v = .slice a' n c' ∧ f = .int .i64 fr ∧ i = .int .i64 k ∧ wr.ownsRow w.heap.size 9 1 (.slice a' n c') n (scells (ps.map Ch.mkB)) ∧ (if k ≤ s.size then ps ++ Ch.cutAt 32 s.data.toList k fr else ps) = Ch.cutL 32 s.data.toList ∧ w.heap.size ≤ wr.heap.size ∧ Below w.heap.size w wr) (fun _ _ i _ => s.size + 1 - (intOf i).toNat)
  case atStart => exact ⟨0, 0, 0, _, _, [], Nat.le_refl _, Nat.zero_le _, Nat.le_refl _, rfl, rfl, rfl, own0, by rw [if_pos (Nat.zero_le _), List.nil_append, Ch.cutAt_zero], bb0.size, bb0⟩
  case round =>
    obtain ⟨k, f, n, a', c', ps, hf, hk, hnk, rfl, rfl, rfl, own, hcut, hsz1, hB⟩ := hrel
    have HU := hid hcut
    clear hcut
    by_cases hle : k ≤ s.size
    · by_cases hlt : k < s.size
      · have hne : ((k : Int) == s.size) = false := by rw [beq_eq_false_iff_ne]; omega
        have hkl : k < s.data.toList.length := by have := hsz.out; omega
        have HX : Hid (s.data.toList[k] = s[k]) := Array.getElem_toList _
        have HC0 := hid (Ch.cutAt_yes 32 s.data.toList k f hkl)
        have HC1 := hid (Ch.cutAt_no 32 s.data.toList k f hkl hf)
        replace HU : Hid (ps ++ Ch.cutAt 32 s.data.toList k f = Ch.cutL 32 s.data.toList) := by have := HU.out; rw [if_pos hle] at this; exact this
        cases hb : ((s[k].toNat : Int) == 32)
        · replace HC1 : Hid (Ch.cutAt 32 s.data.toList k f = Ch.cutAt 32 s.data.toList (k + 1) f) := HC1.out (by
            rw [HX.out]
            intro e
            rw [e] at hb
            simp at hb)
          clear HC0 HX
          go_wp2
          go_roundw
          case rel => exact ⟨k + 1, f, n, a', c', ps, by omega, by omega, by omega, rfl, rfl, by go_num, own, by rw [if_pos (by omega), ← HC1.out]; exact HU.out, hsz1, hB⟩
          case measure => simp [intOf]; omega
        · replace HC0 : Hid (Ch.cutAt 32 s.data.toList k f = (s.data.toList.drop f).take (k - f) :: Ch.cutAt 32 s.data.toList (k + 1) (k + 1)) := HC0.out (by
            rw [HX.out]
            have : s[k].toNat = 32 := by have := beq_iff_eq.1 hb; omega
            exact UInt8.toNat_inj.1 this)
          clear HC1 HX
          have kQ : Below wr.heap.size wr (wr.alloc (.cells #[.string (s.extract f k)] 9)) := (Below.refl _ _).alloc (Nat.le_refl _) _
          have own3 := owns_below own kQ
          have hC3 := new_strS wr (s.extract f k) 9
          have hb3 : w.heap.size ≤ (wr.alloc (.cells #[.string (s.extract f k)] 9)).heap.size := by simp; omega
          have b3 := hB.trans (kQ.mono hB.size)
          have hsum : n + 1 ≤ 4194304 := by omega
          go_wp2_with (at_builtin; go_must (refine wpList_appX Tryd.underlying31 Tryd.underlying31 hi0 hz0 hz1 hz2 rfl (by omega) (by omega) (.tmp 26) (.tmp 31) ?_ ?_ w.heap.size (.slice a' n c') n (scells (ps.map Ch.mkB)) _ 1 1 (scells [s.extract f k]) ?_ ?_ own3 hC3 (scells_one' [s.extract f k]) hsum hb3 ?_; exact rfl; exact rfl; exact rfl; exact rfl; intro a5 c5 w5 own5 gr5 at5; go_frame))
          go_roundw
          case rel =>
            have b5 := b3.grown gr5 b3.size (fun g hg => by have := (owns_lt own3 g hg).1; omega)
            rw [← scells_append, mkB_extract, show ps.map Ch.mkB ++ [Ch.mkB ((s.data.toList.drop f).take (k - f))] = (ps ++ [(s.data.toList.drop f).take (k - f)]).map Ch.mkB by simp] at own5
            refine ⟨k + 1, k + 1, n + 1, a5, c5, _, Nat.le_refl _, by omega, by omega, rfl, by go_num, by go_num, own5, by rw [if_pos (by omega), List.append_assoc, List.singleton_append, ← HC0.out]; exact HU.out, b5.size, b5⟩
          case measure => simp [intOf]; omega
      · obtain rfl : k = s.size := by omega
        have HC0 := hid (Ch.cutAt_end 32 s.data.toList s.size f hsz.out.symm)
        replace HU : Hid (ps ++ Ch.cutAt 32 s.data.toList s.size f = Ch.cutL 32 s.data.toList) := by have := HU.out; rw [if_pos hle] at this; exact this
        have hne : ((s.size : Int) == s.size) = true := by simp
        have kQ : Below wr.heap.size wr (wr.alloc (.cells #[.string (s.extract f s.size)] 9)) := (Below.refl _ _).alloc (Nat.le_refl _) _
        have own3 := owns_below own kQ
        have hC3 := new_strS wr (s.extract f s.size) 9
        have hb3 : w.heap.size ≤ (wr.alloc (.cells #[.string (s.extract f s.size)] 9)).heap.size := by simp; omega
        have b3 := hB.trans (kQ.mono hB.size)
        have hsum : n + 1 ≤ 4194304 := by omega
        go_wp2_with (at_builtin; go_must (refine wpList_appX Tryd.underlying31 Tryd.underlying31 hi0 hz0 hz1 hz2 rfl (by omega) (by omega) (.tmp 26) (.tmp 31) ?_ ?_ w.heap.size (.slice a' n c') n (scells (ps.map Ch.mkB)) _ 1 1 (scells [s.extract f s.size]) ?_ ?_ own3 hC3 (scells_one' [s.extract f s.size]) hsum hb3 ?_; exact rfl; exact rfl; exact rfl; exact rfl; intro a5 c5 w5 own5 gr5 at5; go_frame))
        go_roundw
        case rel =>
          have b5 := b3.grown gr5 b3.size (fun g hg => by have := (owns_lt own3 g hg).1; omega)
          rw [← scells_append, mkB_extract, show ps.map Ch.mkB ++ [Ch.mkB ((s.data.toList.drop f).take (s.size - f))] = (ps ++ [(s.data.toList.drop f).take (s.size - f)]).map Ch.mkB by simp] at own5
          refine ⟨s.size + 1, s.size + 1, n + 1, a5, c5, _, Nat.le_refl _, by omega, by omega, rfl, by go_num, by go_num, own5, by rw [if_neg (by omega), ← HC0.out]; exact HU.out, b5.size, b5⟩
        case measure => simp [intOf]
    · obtain rfl : k = s.size + 1 := by omega
      replace HU : Hid (ps = Ch.cutL 32 s.data.toList) := by have := HU.out; rw [if_neg hle] at this; exact this
      go_wp2
      go_ret
      refine ⟨a', n, c', rfl, by omega, ?_, hB⟩
      rw [HU.out] at own
      exact own
end Go.Proofs.YtalhmogaogaekaaDoor
