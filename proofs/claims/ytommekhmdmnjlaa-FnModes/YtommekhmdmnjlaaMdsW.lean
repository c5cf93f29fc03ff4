/- The draws of two modes, and the plain facts of the law FnModes. -/
import Derived.Test.YtommekhmdmnjlaaJoiL
import Derived.Test.YtommekhmdmnjlaaTxtL
import Derived.Test.YtommekhmdmnjlaaDrawR
namespace Go.Proofs.Ytommekhmdmnjlaa
open Go.RowKit

theorem l5Draw_any (s : Nat) (a : Option Addr) (n cap k : Nat) (zs : List Int) (w : World) (h : Src w s a n cap k zs) (hb : IsB zs) (hn : n ≤ 1048580) (hk : k ≤ 900) :
    Calls Try.prog 67 #[.pointer (some ⟨s, 0, none⟩)] w fun e w' => (∃ v : Int, e = .returned (.int .i64 v)) ∧ Src w' s a n cap (k + 1) zs ∧ w.grownBy w' (some s) := by
  have hsl := h.lt
  go_enter Try.func67, Try.ntmps67
  go_wp2_with fail
  refine (pick_any w.heap.size 11 [1, 2, 3, 4, 5, 0, 1, 3, 5, 6, -1] s a n cap k zs _ h.new hb hn (by omega) (heap_alloc_new _ _) (by omega) rfl (by omega) (by omega)).mono ?_
  rintro e w1 ⟨⟨v, _, rfl⟩, s1, g1⟩
  go_wp2_with fail
  go_ret
  exact ⟨⟨v, rfl⟩, s1, gr_alloc g1⟩

theorem l5Two_any (a : Option Addr) (n cap : Nat) (zs : List Int) (w : World) (h : CellsAt w a n (bts zs)) (hb : IsB zs) (hn : n ≤ 1048576) :
    Calls Try.prog 45 #[.slice a n cap] w fun e w' => ∃ x y : Int, e = .returned (.tuple #[.int .i64 x, .int .i64 y]) ∧ Below w.heap.size w w' := by
  go_enter Try.func45, Try.ntmps45
  go_wp2_with fail
  refine (source_any a n cap zs w h).mono ?_
  rintro e w1 ⟨rfl, s1, b1⟩
  go_wp2_with fail
  refine (l5Draw_any _ a n cap 0 zs _ s1 hb (by omega) (by omega)).mono ?_
  rintro e w2 ⟨⟨x, rfl⟩, s2, g2⟩
  go_wp2_with fail
  refine (l5Draw_any _ a n cap 1 zs _ s2 hb (by omega) (by omega)).mono ?_
  rintro e w3 ⟨⟨y, rfl⟩, s3, g3⟩
  go_wp2_with fail
  have bE := (b1.trans (below_gr g2 (Nat.le_refl _) b1.size)).trans (below_gr g3 (Nat.le_refl _) (Nat.le_trans b1.size g2.size))
  first
    | (go_ret; exact ⟨x, y, rfl, bE⟩)
    | (refine bodyPost_ret (v := .tuple #[.int .i64 x, .int .i64 y]) (by simp [results, Try.results45, go_sem]) rfl ⟨x, y, rfl, bE⟩)

theorem drawJoin_any (a : Option Addr) (n cap : Nat) (zs : List Int) (w : World) (h : CellsAt w a n (bts zs)) (hb : IsB zs) (hn : n ≤ 1048576) :
    Calls Try.prog 18 #[.slice a n cap] w fun e w' => ∃ x y : Int, e = .returned (.tuple #[.int .i64 x, .int .i64 y]) ∧ Below w.heap.size w w' := by
  go_enter Try.func18, Try.ntmps18
  go_wp2_with fail
  refine (l5Two_any a n cap zs w h hb hn).mono ?_
  rintro e w1 ⟨x, y, rfl, b1⟩
  go_wp2_with fail
  first
    | (go_ret; exact ⟨x, y, rfl, b1⟩)
    | (refine bodyPost_ret (v := .tuple #[.int .i64 x, .int .i64 y]) (by simp [results, Try.results18, go_sem]) rfl ⟨x, y, rfl, b1⟩)

theorem Ch.cov_join {a b m : Int} (ha : Ch.isM a = true) (hb : Ch.isM b = true) (hm : Ch.isM m = true) : (!(Ch.tab Ch.covT m a && Ch.tab Ch.covT m b) || Ch.tab Ch.covT m (Ch.join a b)) = true := by
  rcases Ch.mode_cases ha with rfl | rfl | rfl | rfl | rfl | rfl
  all_goals rcases Ch.mode_cases hb with rfl | rfl | rfl | rfl | rfl | rfl
  all_goals rcases Ch.mode_cases hm with rfl | rfl | rfl | rfl | rfl | rfl
  all_goals rfl
theorem Ch.fit_less {a b m : Int} (ha : Ch.isM a = true) (hb : Ch.isM b = true) (hm : Ch.isM m = true) : (!(Ch.tab Ch.fitT a m && Ch.tab Ch.covT a b) || Ch.tab Ch.fitT b m) = true := by
  rcases Ch.mode_cases ha with rfl | rfl | rfl | rfl | rfl | rfl
  all_goals rcases Ch.mode_cases hb with rfl | rfl | rfl | rfl | rfl | rfl
  all_goals rcases Ch.mode_cases hm with rfl | rfl | rfl | rfl | rfl | rfl
  all_goals rfl
theorem Ch.join_facts {a b : Int} (ha : Ch.isM a = true) (hb : Ch.isM b = true) : Ch.tab Ch.covT (Ch.join a b) a = true ∧ Ch.tab Ch.covT (Ch.join a b) b = true ∧ Ch.join b a = Ch.join a b ∧ Ch.join a a = a := by
  rcases Ch.mode_cases ha with rfl | rfl | rfl | rfl | rfl | rfl
  all_goals rcases Ch.mode_cases hb with rfl | rfl | rfl | rfl | rfl | rfl
  all_goals exact ⟨rfl, rfl, rfl, rfl⟩

theorem fitAt {a b : Int} (ha : Ch.isM a = true) (hb : Ch.isM b = true) (w : World) :
    Calls Try.prog 20 #[.int .i64 a, .int .i64 b] w fun e w' => e = .returned (.bool (Ch.tab Ch.fitT a b)) ∧ Below w.heap.size w w' := by
  have := implFit_any a b w
  rw [ha, hb] at this
  exact this
theorem fitNo {a b : Int} (h : (Ch.isM a && Ch.isM b) = false) (w : World) :
    Calls Try.prog 20 #[.int .i64 a, .int .i64 b] w fun e w' => e = .returned (.bool false) ∧ Below w.heap.size w w' := by
  have := implFit_any a b w
  rw [h] at this
  exact this
theorem covNo {a b : Int} (h : (Ch.isM a && Ch.isM b) = false) (w : World) :
    Calls Try.prog 24 #[.int .i64 a, .int .i64 b] w fun e w' => e = .returned (.bool false) ∧ Below w.heap.size w w' := by
  have := implCov_any a b w
  rw [h] at this
  exact this
theorem specFitAt {a b : Int} (ha : Ch.isM a = true) (hb : Ch.isM b = true) (w : World) :
    Calls Try.prog 21 #[.int .i64 a, .int .i64 b] w fun e w' => e = .returned (.bool (Ch.tab Ch.fitT a b)) ∧ w' = w := by
  have := specFit_any a b w
  rw [ha, hb] at this
  exact this
theorem specFitNo {a b : Int} (h : (Ch.isM a && Ch.isM b) = false) (w : World) :
    Calls Try.prog 21 #[.int .i64 a, .int .i64 b] w fun e w' => e = .returned (.bool false) ∧ w' = w := by
  have := specFit_any a b w
  rw [h] at this
  exact this
theorem textAt {a : Int} {i : Bool} (h : Ch.isM a = i) : ∃ (c : Int) (s : ByteArray), (c == 0) = i ∧ ∀ w : World,
    Calls Try.prog 23 #[.int .i64 a] w fun e w' => e = .returned (.agg #[.int .i64 c, .string s]) ∧ Below w.heap.size w w' := by
  have := fun w => implText_any a w
  unfold textR textV at this
  rw [h] at this
  cases i
  · exact ⟨3, _, rfl, this⟩
  · exact ⟨0, _, rfl, this⟩
theorem field_txt (c : Int) (s : ByteArray) (W : World) : (Instr.field 48 (.agg #[.int .i64 c, .string s]) 0).run Try.prog W = .ok (.int .i64 c) W := by kernel_rfl
theorem field_int (c j : Int) (W : World) : (Instr.field 43 (.agg #[.int .i64 c, .int .i64 j]) 1).run Try.prog W = .ok (.int .i64 j) W := by kernel_rfl
theorem eqlInt (c j c' j' : Int) (w : World) : (binOp .eql 43 (.agg #[.int .i64 c, .int .i64 j]) (.agg #[.int .i64 c', .int .i64 j'])).run Try.prog w = .ok (.bool (c == c' && j == j')) w := by
  have hS : Try.prog.underlying 43 = some (.struct (Try.prog.fieldsOf 43)) := by kernel_rfl
  have hp : Try.prog.stoodInHeld 43 = false := by kernel_rfl
  have u2 := Try.underlying2
  have a2 := Try.isAgg2
  have z2 := Try.sizeOf2
  rw [run_eql_struct, show (10000 : Nat) = 9999 + 1 from rfl, run_equalIn_agg w 9999 43 _ _ hS hp]
  simp only [Program.fieldsOf, Try.underlying43]
  go_simp
  by_cases h1 : c = c' <;> by_cases h2 : j = j' <;> simp [h1, h2]
end Go.Proofs.Ytommekhmdmnjlaa
