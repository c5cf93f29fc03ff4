
/- The draw of FnScans. -/
import Derived.Test.YtjagobcogkdfhaaDrawY
namespace Go.Proofs.Ytjagobcogkdfhaa
open Go.RowKit

set_option linter.unusedSimpArgs false in
set_option maxRecDepth 100000 in
set_option maxHeartbeats 4000000 in
theorem drawScan_any (a : Option Addr) (n cap : Nat) (zs : List Int) (w : World) (h : CellsAt w a n (bts zs)) (hb : IsB zs) (hn : n ≤ 1048576) :
    Calls Try.prog 17 #[.slice a n cap] w fun e w' => ∃ ls a' m c' lo hi, Ch.bentLv ls ∧ e = .returned (.tuple #[.slice a' m c', .int .i64 lo, .int .i64 hi]) ∧ OwnLv w' w.heap.size (.slice a' m c') m ls ∧ Below w.heap.size w w' := by
  go_enter Try.func17, Try.ntmps17
  go_wp2_with fail
  refine (l3With_any a n cap zs _ h hb hn).mono ?_
  rintro e w1 ⟨ls, a1, m, c1, key, hbe, rfl, o1, b1⟩
  have hc1 := h.below b1
  have own0 : (w1.alloc (.cells #[.int .u8 3] 5)).ownsRow w1.heap.size 5 1 (.slice (some ⟨w1.heap.size, 0, none⟩) 1 1) 1 [.int .u8 3] := World.ownsRow_lit w1 #[.int .u8 3] 1 (Nat.le_refl _) (by unfold maxLen; omega) rfl
  have bL : Below w1.heap.size w1 (w1.alloc (.cells #[.int .u8 3] 5)) := (Below.refl _ _).alloc (Nat.le_refl _) _
  have hcL := hc1.below bL
  have hsum : 1 + n ≤ 1099511627776 := by omega
  go_wp2_with (at_builtin; go_must (refine wpList_appOy (.tmp 13) (.tmp 14) w1.heap.size w1.heap.size 1 1 [.int .u8 3] a n cap zs hsum ?_ ?_ ?_ ?_ ?_ ?_ ?_ ?_; exact rfl; exact rfl; exact rfl; exact rfl; exact hcL; exact own0; (focus (simp; done)); intro a2 c2 w2 own2 b2))
  have B2 := bL.trans b2
  have hz2 := B2.size
  have hcs : CellsAt w2 a2 (1 + n) (bts (3 :: zs)) := by
    have := owns_cells own2
    rw [Nat.mul_one] at this
    simpa [bts] using this
  have hb3 : IsB (3 :: zs) := by
    intro i
    cases i with
    | zero => simp
    | succ i => simpa using hb i
  have O2 := o1.below B2
  have bE2 := b1.trans (B2.mono b1.size)
  clear own0 bL hcL b2 own2 hc1 B2 b1 o1
  refine (source_any a2 (1 + n) c2 (3 :: zs) w2 hcs).mono ?_
  rintro e w3 ⟨rfl, S3, b3⟩
  have hz3 := S3.lt
  go_wp2_with fail
  refine (next_any 9 w2.heap.size a2 (1 + n) c2 0 (3 :: zs) w3 S3 hb3 (by omega) (by omega) (by omega) (by omega)).mono ?_
  rintro e w4 ⟨⟨d, _, _, rfl⟩, S4, G4⟩
  have hz4 := G4.size
  have B4 := b3.trans (below_gr (B := w2.heap.size) G4 (Nat.le_refl _) (by omega))
  clear S3 b3 G4
  go_wp2_with fail
  generalize wrap64 (key + d) = kd
  refine (pick_any w4.heap.size 5 [kd, 20, 99, 100, 0] w2.heap.size a2 (1 + n) c2 1 (3 :: zs) _ S4.new hb3 (by omega) (by omega) (heap_alloc_new w4 _) (by omega) rfl (by omega) (by omega)).mono ?_
  rintro e w5 ⟨⟨hi, _, rfl⟩, S5, G5⟩
  have B5 : Below w2.heap.size w4 w5 := ((Below.refl _ _).alloc (by omega) _).trans (below_gr (B := w2.heap.size) G5 (Nat.le_refl _) (by simp; omega))
  have B6 := B4.trans B5
  go_wp2
  exact bodyPost_ret (v := .tuple #[.slice a1 m c1, .int .i64 key, .int .i64 hi]) (by simp [results, Try.results17, go_sem]) rfl ⟨ls, a1, m, c1, key, hi, hbe, rfl, O2.below B6, bE2.trans (B6.mono bE2.size)⟩
end Go.Proofs.Ytjagobcogkdfhaa
