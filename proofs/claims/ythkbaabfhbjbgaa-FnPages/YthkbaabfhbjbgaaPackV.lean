/- Walks of PackPage: of the program. -/
import Derived.Test.YthkbaabfhbjbgaaPackW
namespace Go.Proofs.Ythkbaabfhbjbgaa
open Go.RowKit

theorem high_any (v : Int) (w : World) (h0 : 0 ≤ v) (h1 : v < 65536) :
    Calls Try.prog 60 #[.int .i64 v] w fun e w' => e = .returned (.int .u8 (v / 256)) ∧ w' = w := by
  go_enter Try.func60, Try.ntmps60
  go_wp2
  go_ret
  exact ⟨rfl, rfl⟩

theorem low_any (v : Int) (w : World) (h0 : 0 ≤ v) (h1 : v < 65536) :
    Calls Try.prog 61 #[.int .i64 v] w fun e w' => e = .returned (.int .u8 (v % 256)) ∧ w' = w := by
  go_enter Try.func61, Try.ntmps61
  go_wp2
  go_ret
  exact ⟨rfl, rfl⟩

set_option maxHeartbeats 1000000 in
theorem packRow_any (rk rv : Int) (rg : Bool) (w : World) (k0 : 0 ≤ rk) (k1 : rk ≤ 99) (v0 : 0 ≤ rv) (v1 : rv ≤ 9999) :
    Calls Try.prog 44 #[.agg #[.int .i64 rk, .int .i64 rv, .bool rg]] w fun e w' => e = .returned (.agg #[.int .u8 rk, .int .u8 (rv / 256), .int .u8 (rv % 256), .int .u8 (if rg then 1 else 0)]) ∧ Below w.heap.size w w' := by
  have hwr : IntKind.u8.wrap rk = rk := by simp [IntKind.wrap_u8]; omega
  cases rg
  all_goals
   go_enter Try.func44, Try.ntmps44
   go_wp2
   go_region_held3 (fun w' => w'.cell? ⟨w.heap.size, 0, none⟩ = some (.int .i64 rk) ∧ w'.cell? ⟨w.heap.size, 1, none⟩ = some (.int .i64 rv)) (go_keep)
    (first | (go_at_call 60; refine (high_any _ _ v0 (by omega)).mono ?_; rintro e w' ⟨rfl, rfl⟩) | (go_at_call 61; refine (low_any _ _ v0 (by omega)).mono ?_; rintro e w' ⟨rfl, rfl⟩))
   all_goals
    go_wp2
    refine bodyPost_ret (v := .agg #[.int .u8 rk, .int .u8 (rv / 256), .int .u8 (rv % 256), .int .u8 _]) (by simp [results, Try.results44, go_sem]; rfl) rfl ⟨by simp, ?_⟩
    repeat (first | exact Below.refl _ _ | refine Below.drew ?_ | refine Below.alloc ?_ (by first | omega | (simp; done) | (simp; omega)) _)

set_option maxHeartbeats 1000000 in
theorem appendSum_any (B g n cp : Nat) (p : List Int) (w : World) (hown : w.ownsRow B 5 1 (.slice (some ⟨g, 0, none⟩) n cp) n (bts p)) (hB : B ≤ w.heap.size) (hn : n ≤ 1000000) (hb : IsB p) :
    Calls Try.prog 45 #[.slice (some ⟨g, 0, none⟩) n cp] w fun e w' => ∃ g' cp', e = .returned (.slice (some ⟨g', 0, none⟩) (n + 2) cp') ∧ w'.ownsRow B 5 1 (.slice (some ⟨g', 0, none⟩) (n + 2) cp') (n + 2) (bts (Ch.withSum p)) ∧ Below B w w' := by
  have hgB := owns_bounds hown
  obtain ⟨s0, s1⟩ := Ch.sumB_bd p
  have HE : Hid (bts p ++ [.int .u8 (Ch.sumB p / 256), .int .u8 (Ch.sumB p % 256)] = bts (Ch.withSum p)) := by
    show _ = _
    simp [Ch.withSum, bts]
  go_enter Try.func45, Try.ntmps45
  go_wp2_with fail
  refine (implSum_any _ n cp p _ (by simpa using owns_cells hown) hb (by omega)).mono ?_
  rintro e w1 ⟨rfl, rfl⟩
  generalize Ch.sumB p = q at *
  go_wp2_with fail
  refine (high_any _ _ s0 (by omega)).mono ?_
  rintro e w2 ⟨rfl, rfl⟩
  go_wp2_with fail
  refine (low_any _ _ s0 (by omega)).mono ?_
  rintro e w3 ⟨rfl, rfl⟩
  go_wp2_with (at_builtin; refine wpList_app (.tmp 6) (.tmp 11) B g n cp (bts p) 2 #[.int .u8 (q / 256), .int .u8 (q % 256)] ⟨by omega, rfl, by omega, by omega⟩ ?_ ?_ ?_ ?_ ?_ ?_ ?_ ?_; exact rfl; exact rfl; exact rfl; (refine ⟨_, _, 5, rfl, ?_⟩; exact heap_new' rfl); exact hown.alloc _; (simp [Value.oneCell']); (simp; omega); intro g1 c1 w4 own1 gr1)
  go_ret
  refine ⟨g1, c1, rfl, ?_, ((Below.refl _ _).alloc hB _).trans gr1.below⟩
  rw [← HE.out]
  exact own1

set_option maxHeartbeats 2000000 in
theorem implPack_ok (a : Option Addr) (n cap : Nat) (rs : List Ch.Row) (w : World) (h : CellsAt w a (n * 3) (rcells rs)) (hn : n ≤ 1099511627776) (h0 : Ch.pageFault rs = 0) :
    Calls Try.prog 12 #[.slice a n cap] w fun e w' => ∃ g cp, e = .returned (.agg #[.int .i64 0, .slice (some ⟨g, 0, none⟩) (3 + 4 * n) cp]) ∧ w'.ownsRow w.heap.size 5 1 (.slice (some ⟨g, 0, none⟩) (3 + 4 * n) cp) (3 + 4 * n) (bts (Ch.pageB rs)) ∧ Below w.heap.size w w' := by
  have HL := h.rlen
  obtain ⟨hr, hl4⟩ := Ch.allFit_of_page h0
  have hn4 : n ≤ 4 := by have := HL.out; omega
  have hd0 : ((0 : Int) != 0) = false := by simp
  go_enter Try.func12, Try.ntmps12
  go_wp2_with fail
  refine (implPage_any a n cap rs _ (h.below ((Below.refl _ _).alloc (Nat.le_refl _) _)) hn).mono ?_
  rw [h0]
  rintro e w1 ⟨rfl, b1⟩
  have z1 := b1.size
  simp at z1
  go_wp2
  go_loopw [4, 20] (fun v i wr => ∃ k g cp : Nat, k ≤ n ∧ i = .int .i64 k ∧ v = .slice (some ⟨g, 0, none⟩) (1 + 4 * k) cp ∧ wr.ownsRow (w.heap.size + 1) 5 1 (.slice (some ⟨g, 0, none⟩) (1 + 4 * k) cp) (1 + 4 * k) (bts (Ch.packed n (rs.take k))) ∧ Below (w.heap.size + 1) (w.alloc (.cells #[.int .i64 0, .slice none 0 0] 30)) wr) (fun _ i _ => n - (intOf i).toNat)
  case atStart =>
    refine ⟨0, w1.heap.size, 1, Nat.zero_le _, rfl, rfl, ?_, ?_⟩
    · exact World.ownsRow_lit w1 #[.int .u8 (n : Int)] 1 z1 (by unfold maxLen; omega) rfl
    · exact (b1.mono (by simp)).alloc z1 _
  case round =>
    obtain ⟨k, g, cp, hk, rfl, rfl, hown, hB⟩ := hrel
    have zr := hB.size
    simp at zr
    have hBw : Below w.heap.size w wr := ((Below.refl _ _).alloc (Nat.le_refl _) _).trans (hB.mono (by simp))
    have hgB := owns_bounds hown
    by_cases hlt : k < n
    · obtain ⟨b, off, rfl, hc0, hc1, hc2⟩ := (h.below hBw).row hlt
      obtain ⟨k0, k1, v0, v1⟩ := hr k
      have HP : Hid (Ch.packed n (rs.take (k + 1)) = Ch.packed n (rs.take k) ++ Ch.rowB (rs.getD k Ch.Row.zero)) := Ch.packed_snoc n rs k (by have := HL.out; omega)
      generalize rs.getD k Ch.Row.zero = r at *
      obtain ⟨rk, rv, rg⟩ := r
      simp only [Ch.rowB] at hc0 hc1 hc2 k0 k1 v0 v1 HP
      go_wp2_with fail
      refine (packRow_any rk rv rg _ k0 k1 v0 v1).mono ?_
      rintro e w2 ⟨rfl, b2⟩
      have b2w := below_box b2
      have own2 := owns_below hown b2w
      have z2 := b2w.size
      generalize (if rg = true then (1 : Int) else 0) = gb at *
      go_wp2_with (at_builtin; refine wpList_app (.tmp 26) (.tmp 27) (w.heap.size + 1) g (1 + 4 * k) cp (bts (Ch.packed n (rs.take k))) 4 #[.int .u8 rk, .int .u8 (rv / 256), .int .u8 (rv % 256), .int .u8 gb] ⟨by omega, rfl, by omega, by omega⟩ ?_ ?_ ?_ ?_ ?_ ?_ ?_ ?_; exact rfl; exact rfl; exact rfl; (refine ⟨_, _, 60, rfl, ?_⟩; exact heap_new' rfl); exact own2.alloc _; (simp [Value.oneCell']); (simp; omega); intro g3 c3 w3 own3 gr3)
      have bw3 := ((hB.trans (b2w.mono zr)).alloc (by omega) _).trans gr3.below
      go_roundw
      case rel =>
        refine ⟨k + 1, g3, c3, by omega, by go_num, by rw [show 1 + 4 * k + 4 = 1 + 4 * (k + 1) by omega], ?_, bw3⟩
        rw [HP.out]
        rw [show 1 + 4 * k + 4 = 1 + 4 * (k + 1) by omega] at own3
        simpa [bts] using own3
      case measure => simp [intOf]; omega
    · obtain rfl : k = n := by omega
      have HT : Hid (rs.take k = rs) := by show _ = _; exact List.take_of_length_le (by have := HL.out; omega)
      rw [HT.out] at hown
      have hbts : IsB (Ch.packed k rs) := isB_of (Ch.packed_bytes k rs (by omega) (by omega) hr)
      have HE : Hid (Ch.withSum (Ch.packed k rs) = Ch.pageB rs) := by
        show _ = _
        have := HL.out
        simp [Ch.pageB, this]
      generalize Ch.packed k rs = p at *
      clear HT HL hr
      go_wp2_with fail
      refine (appendSum_any _ _ _ _ p _ hown zr (by omega) hbts).mono ?_
      rintro e w2 ⟨g2, c2, rfl, own2, b2⟩
      have b2' := hB.trans b2
      have q0 := b2'.cell (p := ⟨w.heap.size, 0, none⟩) (by simp)
      have q1 := b2'.cell (p := ⟨w.heap.size, 1, none⟩) (by simp)
      have f0 := b2'.frozen (p := ⟨w.heap.size, 0, none⟩) (by simp)
      have f1 := b2'.frozen (p := ⟨w.heap.size, 1, none⟩) (by simp)
      simp [go_sem] at q0 q1 f0 f1
      have hg2 := owns_bounds own2
      go_wp2
      refine bodyPost_ret (v := .agg #[.int .i64 0, .slice (some ⟨g2, 0, none⟩) (1 + 4 * k + 2) c2]) (by simp [results, Try.results12, go_sem, q0, q1]) rfl ⟨g2, c2, by rw [show 1 + 4 * k + 2 = 3 + 4 * k by omega], ?_, ?_⟩
      · rw [show 1 + 4 * k + 2 = 3 + 4 * k by omega, HE.out] at own2
        exact owns_base (ownsRow_setCell_below (ownsRow_setCell_below own2 (by simp) _) (by simp) _) (by omega)
      · exact ((((Below.refl _ _).alloc (Nat.le_refl _) _).trans (b2'.mono (by omega))).setCell (Nat.le_refl _) _).setCell (Nat.le_refl _) _

set_option maxHeartbeats 400000 in
theorem implPack_no (a : Option Addr) (n cap : Nat) (rs : List Ch.Row) (w : World) (h : CellsAt w a (n * 3) (rcells rs)) (hn : n ≤ 1099511627776) (c : Int) (h0 : Ch.pageFault rs = c) (hc : (c != 0) = true) :
    Calls Try.prog 12 #[.slice a n cap] w fun e w' => e = .returned (.agg #[.int .i64 c, .slice none 0 0]) ∧ Below w.heap.size w w' := by
  go_enter Try.func12, Try.ntmps12
  go_wp2_with fail
  refine (implPage_any a n cap rs _ (h.below ((Below.refl _ _).alloc (Nat.le_refl _) _)) hn).mono ?_
  rw [h0]
  rintro e w1 ⟨rfl, b1⟩
  have q0 := box_cell b1 0
  have q1 := box_cell b1 1
  have f0 := b1.frozen (p := ⟨w.heap.size, 0, none⟩) (by simp)
  have f1 := b1.frozen (p := ⟨w.heap.size, 1, none⟩) (by simp)
  simp [go_sem] at q0 q1 f0 f1
  go_wp2
  exact bodyPost_ret (v := .agg #[.int .i64 c, .slice none 0 0]) (by simp [results, Try.results12, go_sem, q0, q1]) rfl ⟨rfl, ((below_box b1).setCell (Nat.le_refl _) _).setCell (Nat.le_refl _) _⟩

set_option maxHeartbeats 400000 in
theorem specPack_no (a : Option Addr) (n cap : Nat) (rs : List Ch.Row) (w : World) (h : CellsAt w a (n * 3) (rcells rs)) (hn : n ≤ 1099511627776) (c : Int) (h0 : Ch.pageFault rs = c) (hc : (c != 0) = true) :
    Calls Try.prog 26 #[.slice a n cap] w fun e w' => e = .returned (.agg #[.int .i64 c, .slice none 0 0]) ∧ Below w.heap.size w w' := by
  go_enter Try.func26, Try.ntmps26
  go_wp2_with fail
  refine (specPage_any a n cap rs _ (h.below ((Below.refl _ _).alloc (Nat.le_refl _) _)) hn).mono ?_
  rw [h0]
  rintro e w1 ⟨rfl, b1⟩
  have q0 := box_cell b1 0
  have q1 := box_cell b1 1
  have f0 := b1.frozen (p := ⟨w.heap.size, 0, none⟩) (by simp)
  have f1 := b1.frozen (p := ⟨w.heap.size, 1, none⟩) (by simp)
  simp [go_sem] at q0 q1 f0 f1
  go_wp2
  exact bodyPost_ret (v := .agg #[.int .i64 c, .slice none 0 0]) (by simp [results, Try.results26, go_sem, q0, q1]) rfl ⟨rfl, ((below_box b1).setCell (Nat.le_refl _) _).setCell (Nat.le_refl _) _⟩

set_option maxHeartbeats 400000 in
theorem specPack_ok (a : Option Addr) (n cap : Nat) (rs : List Ch.Row) (w : World) (h : CellsAt w a (n * 3) (rcells rs)) (hn : n ≤ 1099511627776) (h0 : Ch.pageFault rs = 0) :
    Calls Try.prog 26 #[.slice a n cap] w fun e w' => ∃ g cp, e = .returned (.agg #[.int .i64 0, .slice (some ⟨g, 0, none⟩) (3 + 4 * n) cp]) ∧ w'.ownsRow w.heap.size 5 1 (.slice (some ⟨g, 0, none⟩) (3 + 4 * n) cp) (3 + 4 * n) (bts (Ch.pageB rs)) ∧ Below w.heap.size w w' := by
  have HL := h.rlen
  obtain ⟨hr, hl4⟩ := Ch.allFit_of_page h0
  have hn4 : n ≤ 4 := by have := HL.out; omega
  have hd0 : ((0 : Int) != 0) = false := by simp
  go_enter Try.func26, Try.ntmps26
  go_wp2_with fail
  refine (specPage_any a n cap rs _ (h.below ((Below.refl _ _).alloc (Nat.le_refl _) _)) hn).mono ?_
  rw [h0]
  rintro e w1 ⟨rfl, b1⟩
  have z1 := b1.size
  simp at z1
  go_wp2_with fail
  refine (specPack_any a n cap rs _ (h.below (below_box b1)) hn4 hr).mono ?_
  rintro e w2 ⟨g, cp, rfl, own, b2⟩
  have b2' := b1.trans (b2.mono b1.size)
  have hg := owns_bounds own
  have q0 := box_cell b2' 0
  have q1 := box_cell b2' 1
  have f0 := b2'.frozen (p := ⟨w.heap.size, 0, none⟩) (by simp)
  have f1 := b2'.frozen (p := ⟨w.heap.size, 1, none⟩) (by simp)
  simp [go_sem] at q0 q1 f0 f1
  go_wp2
  refine bodyPost_ret (v := .agg #[.int .i64 0, .slice (some ⟨g, 0, none⟩) (3 + 4 * n) cp]) (by simp [results, Try.results26, go_sem, q0, q1]) rfl ⟨g, cp, rfl, ?_, ((below_box b2').setCell (Nat.le_refl _) _).setCell (Nat.le_refl _) _⟩
  exact owns_base (ownsRow_setCell_below (ownsRow_setCell_below own (by simp; omega) _) (by simp; omega) _) (by omega)
end Go.Proofs.Ythkbaabfhbjbgaa
