/- Several texts in one: PackB, PackL, UnpW, EqW, FirstW, OneW, OneS, ReadV. -/
import Derived.Test.YtoijjjckdggglaaGreatPackA
import Derived.Laws.CopyOwn
import Derived.Lib.SmallJoins
import Derived.Test.YtoijjjckdggglaaGreatRcA


/- Walks of a record's bytes: the program's. -/
namespace Go.Proofs.YtoijjjckdggglaaGreat
open Go.RowKit

theorem flags_any (kd tx ky : Int) (hd : Bool) (ol : Int) (hs : Bool) (nw : Int) (w : World) :
    Calls Tryz.prog 80 #[.agg #[.int .i64 kd, .int .i64 tx, .int .i64 ky, .bool hd, .int .i64 ol, .bool hs, .int .i64 nw]] w fun e w' => e = .returned (.int .u8 (Ch.Rec.flags ⟨kd, tx, ky, hd, ol, hs, nw⟩)) ∧ Below w.heap.size w w' := by
  have o1 : bits .or .u8 0 1 = 1 := by decide
  have o2 : bits .or .u8 0 2 = 2 := by decide
  have o3 : bits .or .u8 1 2 = 3 := by decide
  cases hd <;> cases hs
  all_goals
    go_enter Tryz.func80, Tryz.ntmps80
    go_wp2
    go_ret
    exact ⟨by simp [Ch.Rec.flags], (Below.refl _ _).alloc (Nat.le_refl _) _⟩

theorem below_boxT {w w1 : World} {o o' : Obj} (b : Below (w.heap.size + 2) ((w.alloc o).alloc o') w1) : Below (w.heap.size + 1) (w.alloc o) w1 :=
  ((Below.refl _ _).alloc (by simp) _).trans (b.mono (by simp))
theorem below_box2 {w w1 : World} {o o' : Obj} (b : Below ((w.alloc o).alloc o').heap.size ((w.alloc o).alloc o') w1) : Below (w.heap.size + 2) ((w.alloc o).alloc o') w1 := b.mono (by simp)
theorem box_at2 {w w1 : World} {o : Obj} {cs : Array Value} {t : TypeId} (b : Below (w.heap.size + 2) ((w.alloc o).alloc (.cells cs t)) w1) (i : Nat) : w1.cell? ⟨w.heap.size + 1, i, none⟩ = cs[i]? := by
  have := box_cell (w := w.alloc o) (by simpa using b) i
  simpa using this

set_option maxHeartbeats 400000 in
theorem implPackRec_no (kd tx ky : Int) (hd : Bool) (ol : Int) (hs : Bool) (nw : Int) (w : World) (c : Int) (h0 : Ch.Rec.fault ⟨kd, tx, ky, hd, ol, hs, nw⟩ = c) (hc : (c != 0) = true) :
    Calls Tryz.prog 69 #[.agg #[.int .i64 kd, .int .i64 tx, .int .i64 ky, .bool hd, .int .i64 ol, .bool hs, .int .i64 nw]] w fun e w' => e = .returned (.agg #[.int .i64 c, .slice none 0 0]) ∧ Below w.heap.size w w' := by
  go_enter Tryz.func69, Tryz.ntmps69
  go_wp2_with fail
  refine (implRec_any _ _ _ _ _ _ _ _).mono ?_
  rw [h0]
  rintro e w1 ⟨rfl, b1⟩
  have b1' := below_box2 b1
  have q0 := box_at2 b1' 0
  have q1 := box_at2 b1' 1
  have f0 := b1'.frozen (p := ⟨w.heap.size + 1, 0, none⟩) (by simp)
  have f1 := b1'.frozen (p := ⟨w.heap.size + 1, 1, none⟩) (by simp)
  simp [go_sem] at q0 q1 f0 f1
  go_wp2
  exact bodyPost_ret (v := .agg #[.int .i64 c, .slice none 0 0]) (by simp [results, Tryz.results69, go_sem, q0, q1]) rfl ⟨rfl, ((below_boxS (below_boxT b1')).setCell (p := ⟨w.heap.size + 1, 0, none⟩) (by simp) _).setCell (p := ⟨w.heap.size + 1, 1, none⟩) (by simp) _⟩

set_option linter.unusedSimpArgs false in
set_option maxHeartbeats 4000000 in
theorem implPackRec_ok (kd tx ky : Int) (hd : Bool) (ol : Int) (hs : Bool) (nw : Int) (w : World) (h0 : Ch.Rec.fault ⟨kd, tx, ky, hd, ol, hs, nw⟩ = 0) :
    Calls Tryz.prog 69 #[.agg #[.int .i64 kd, .int .i64 tx, .int .i64 ky, .bool hd, .int .i64 ol, .bool hs, .int .i64 nw]] w fun e w' => ∃ g cp, e = .returned (.agg #[.int .i64 0, .slice (some ⟨g, 0, none⟩) (Ch.Rec.len ⟨kd, tx, ky, hd, ol, hs, nw⟩) cp]) ∧ w'.ownsRow w.heap.size 5 1 (.slice (some ⟨g, 0, none⟩) (Ch.Rec.len ⟨kd, tx, ky, hd, ol, hs, nw⟩) cp) (Ch.Rec.len ⟨kd, tx, ky, hd, ol, hs, nw⟩) (bts (Ch.Rec.bytes ⟨kd, tx, ky, hd, ol, hs, nw⟩)) ∧ Below w.heap.size w w' := by
  have fit := Ch.Rec.fit h0
  have hbts := isB_of (Ch.Rec.body_bytes fit)
  obtain ⟨⟨k0, k1⟩, ⟨t0, t1⟩, ⟨y0, y1⟩, ⟨o0, o1⟩, ⟨n0, n1⟩, hrest⟩ := fit
  clear hrest
  simp only at k0 k1 t0 t1 y0 y1 o0 o1 n0 n1
  have hw0 : IntKind.u8.wrap kd = kd := by simp [IntKind.wrap_u8]; omega
  have hw1 : IntKind.u8.wrap ky = ky := by simp [IntKind.wrap_u8]; omega
  go_enter Tryz.func69, Tryz.ntmps69
  go_wp2_with fail
  refine (implRec_any _ _ _ _ _ _ _ _).mono ?_
  rw [h0]
  rintro e w1 ⟨rfl, b1⟩
  have z1 := b1.size
  simp at z1
  go_upto_region 4 with fail
  go_cut [4] (fun s wx => ∃ g c, s = .slice (some ⟨g, 0, none⟩) 3 c ∧ wx.ownsRow (w.heap.size + 2) 5 1 (.slice (some ⟨g, 0, none⟩) 3 c) 3 (bts [kd, tx / 256, tx % 256]) ∧ Below (w.heap.size + 2) ((w.alloc (recO kd tx ky hd ol hs nw)).alloc (.cells #[.int .i64 0, .slice none 0 0] 106)) wx)
  case first =>
    have HS : Hid (∀ W', Below (w.heap.size + 2) ((w.alloc (recO kd tx ky hd ol hs nw)).alloc (.cells #[.int .i64 0, .slice none 0 0] 106)) W' → W'.cell? ⟨w.heap.size, 0, none⟩ = some (.int .i64 kd) ∧ W'.cell? ⟨w.heap.size, 1, none⟩ = some (.int .i64 tx) ∧ W'.cell? ⟨w.heap.size, 2, none⟩ = some (.int .i64 ky) ∧ W'.cell? ⟨w.heap.size, 3, none⟩ = some (.bool hd) ∧ W'.cell? ⟨w.heap.size, 4, none⟩ = some (.int .i64 ol) ∧ W'.cell? ⟨w.heap.size, 5, none⟩ = some (.bool hs) ∧ W'.cell? ⟨w.heap.size, 6, none⟩ = some (.int .i64 nw) ∧ Below (w.heap.size + 2) ((w.alloc (recO kd tx ky hd ol hs nw)).alloc (.cells #[.int .i64 0, .slice none 0 0] 106)) W') := fun W' hb => ⟨by simpa using box_at (below_boxT hb) 0, by simpa using box_at (below_boxT hb) 1, by simpa using box_at (below_boxT hb) 2, by simpa using box_at (below_boxT hb) 3, by simpa using box_at (below_boxT hb) 4, by simpa using box_at (below_boxT hb) 5, by simpa using box_at (below_boxT hb) 6, hb⟩
    refine wp_region_noPanic ?_
    refine wp_region_held_drew (S := fun W' => W'.cell? ⟨w.heap.size, 0, none⟩ = some (.int .i64 kd) ∧ W'.cell? ⟨w.heap.size, 1, none⟩ = some (.int .i64 tx) ∧ W'.cell? ⟨w.heap.size, 2, none⟩ = some (.int .i64 ky) ∧ W'.cell? ⟨w.heap.size, 3, none⟩ = some (.bool hd) ∧ W'.cell? ⟨w.heap.size, 4, none⟩ = some (.int .i64 ol) ∧ W'.cell? ⟨w.heap.size, 5, none⟩ = some (.bool hs) ∧ W'.cell? ⟨w.heap.size, 6, none⟩ = some (.int .i64 nw) ∧ Below (w.heap.size + 2) ((w.alloc (recO kd tx ky hd ol hs nw)).alloc (.cells #[.int .i64 0, .slice none 0 0] 106)) W') (by kernel_rfl) (HS.out _ (below_box2 b1).drew) (fun hH => ?_)
    refine hTake (i := 0) (v := ?_) rfl (by kernel_rfl) (by kernel_rfl) (by kernel_rfl) (by rfl) ?_ hH ?_
    rotate_left
    · intro W hW; (try dsimp only at hW); go_simp <;> with_reducible rfl
    simp only [Act.put, List.setIfInBounds_toArray, List.set_cons_zero, List.set_cons_succ]
    refine hTake (i := 1) (v := ?_) rfl (by kernel_rfl) (by kernel_rfl) (by kernel_rfl) (by rfl) ?_ hH ?_
    rotate_left
    · intro W hW; (try dsimp only at hW); go_simp <;> with_reducible rfl
    simp only [Act.put, List.setIfInBounds_toArray, List.set_cons_zero, List.set_cons_succ]
    refine hTake (i := 2) (v := ?_) rfl (by kernel_rfl) (by kernel_rfl) (by kernel_rfl) (by rfl) ?_ hH ?_
    rotate_left
    · intro W hW; (try dsimp only at hW); go_simp <;> with_reducible rfl
    simp only [Act.put, List.setIfInBounds_toArray, List.set_cons_zero, List.set_cons_succ]
    refine hTake (i := 3) (v := ?_) rfl (by kernel_rfl) (by kernel_rfl) (by kernel_rfl) (by rfl) ?_ hH ?_
    rotate_left
    · intro W hW; (try dsimp only at hW); go_simp <;> with_reducible rfl
    simp only [Act.put, List.setIfInBounds_toArray, List.set_cons_zero, List.set_cons_succ]
    refine hTake (i := 4) (v := ?_) rfl (by kernel_rfl) (by kernel_rfl) (by kernel_rfl) (by rfl) ?_ hH ?_
    rotate_left
    · intro W hW; (try dsimp only at hW); go_simp <;> with_reducible rfl
    simp only [Act.put, List.setIfInBounds_toArray, List.set_cons_zero, List.set_cons_succ]
    refine hTake (i := 6) (v := ?_) rfl (by kernel_rfl) (by kernel_rfl) (by kernel_rfl) (by rfl) ?_ hH ?_
    rotate_left
    · intro W hW; (try dsimp only at hW); go_simp <;> with_reducible rfl
    simp only [Act.put, List.setIfInBounds_toArray, List.set_cons_zero, List.set_cons_succ]
    refine hTake (i := 7) (v := ?_) rfl (by kernel_rfl) (by kernel_rfl) (by kernel_rfl) (by rfl) ?_ hH ?_
    rotate_left
    · intro W hW; (try dsimp only at hW); go_simp <;> with_reducible rfl
    simp only [Act.put, List.setIfInBounds_toArray, List.set_cons_zero, List.set_cons_succ]
    refine wpAnyH_ready (rs := [5]) (by kernel_rfl) (by simp) ?_
    refine AllReadyH.cons rfl (fun K hK => ?_) AllReadyH.nil
    go_simp
    refine (high_any _ _ (by omega) (by omega)).mono ?_
    rintro e w1 ⟨rfl, hw1⟩
    subst w1
    go_wp2_with fail
    refine hK.out _ _ ?_ (fun hH => ?_)
    · exact hH
    clear hK K
    refine wpAnyH_ready (rs := [8]) (by kernel_rfl) (by simp) ?_
    refine AllReadyH.cons rfl (fun K hK => ?_) AllReadyH.nil
    go_simp
    refine (low_any _ _ (by omega) (by omega)).mono ?_
    rintro e w1 ⟨rfl, hw1⟩
    subst w1
    go_wp2_with fail
    refine hK.out _ _ ?_ (fun hH => ?_)
    · exact hH
    clear hK K
    refine wpAnyH_ready (rs := [9]) (by kernel_rfl) (by simp) ?_
    refine AllReadyH.cons rfl (fun K hK => ?_) AllReadyH.nil
    go_simp
    refine hK.out _ _ ?_ (fun hH => ?_)
    · exact HS.out _ (hH.2.2.2.2.2.2.2.alloc (by simp; omega) _)
    clear hK K
    refine hTake (i := 10) (v := ?_) rfl (by kernel_rfl) (by kernel_rfl) (by kernel_rfl) (by rfl) ?_ hH ?_
    rotate_left
    · intro W hW; (try dsimp only at hW); go_simp <;> with_reducible rfl
    simp only [Act.put, List.setIfInBounds_toArray, List.set_cons_zero, List.set_cons_succ]
    refine wpAnyH_done (by kernel_rfl) ?_ _
    refine NoPanic.normal ?_
    go_wp2_with fail
    go_meet
    exact ⟨_, _, rfl, lit_own #[.int .u8 kd, .int .u8 (tx / 256), .int .u8 (tx % 256)] 3 rfl (by first | omega | (simp; omega)) (by omega) (by first | rfl | simp), hH.2.2.2.2.2.2.2⟩
  case rest =>
  obtain ⟨g, c, rfl, own, hB⟩ := hcut
  clear b1 z1
  have q0 := box_at (below_boxT hB) 0
  simp at q0
  have zb := hB.size
  simp at zb
  cases hset : Ch.sets kd
  · have HB : Hid (Ch.Rec.body ⟨kd, tx, ky, hd, ol, hs, nw⟩ = [kd, tx / 256, tx % 256]) := by show _ = _; simp [Ch.Rec.body, hset]
    have HL : Hid (Ch.Rec.len ⟨kd, tx, ky, hd, ol, hs, nw⟩ = 5) := by show _ = _; simp [Ch.Rec.len, hset]
    have HE : Hid (Ch.Rec.bytes ⟨kd, tx, ky, hd, ol, hs, nw⟩ = Ch.withSum [kd, tx / 256, tx % 256]) := by show _ = _; simp [Ch.Rec.bytes, HB.out]
    rw [HB.out] at hbts
    clear HB
    generalize hp : [kd, tx / 256, tx % 256] = p at *
    go_wp2_with (go_at_call 53; refine (tells_any _ _).mono ?_; rintro e w1 ⟨rfl, hw1⟩; subst w1)
    refine (appendSum_any (w.heap.size + 2) g 3 c p _ own zb (by omega) hbts).mono ?_
    rintro e w2 ⟨g2, c2, rfl, own2, b2⟩
    have b2' := hB.trans b2
    have q0 := box_at2 b2' 0
    have q1 := box_at2 b2' 1
    have f0 := b2'.frozen (p := ⟨w.heap.size + 1, 0, none⟩) (by simp)
    have f1 := b2'.frozen (p := ⟨w.heap.size + 1, 1, none⟩) (by simp)
    simp [go_sem] at q0 q1 f0 f1
    have hg2 := owns_bounds own2
    go_wp2
    rw [HL.out, HE.out]
    refine bodyPost_ret (v := .agg #[.int .i64 0, .slice (some ⟨g2, 0, none⟩) (5) c2]) (by simp [results, Tryz.results69, go_sem, q0, q1]) rfl ⟨g2, c2, rfl, ?_, ?_⟩
    · exact owns_base (ownsRow_setCell_below (ownsRow_setCell_below own2 (by simp) _) (by simp) _) (by omega)
    · exact ((below_boxS (below_boxT b2')).setCell (p := ⟨w.heap.size + 1, 0, none⟩) (by simp) _).setCell (p := ⟨w.heap.size + 1, 1, none⟩) (by simp) _
  · have HL : Hid (Ch.Rec.len ⟨kd, tx, ky, hd, ol, hs, nw⟩ = 11) := by show _ = _; simp [Ch.Rec.len, hset]
    have HB : Hid (Ch.Rec.body ⟨kd, tx, ky, hd, ol, hs, nw⟩ = [kd, tx / 256, tx % 256, ky, Ch.Rec.flags ⟨kd, tx, ky, hd, ol, hs, nw⟩, ol / 256, ol % 256, nw / 256, nw % 256]) := by show _ = _; simp [Ch.Rec.body, hset, Ch.Rec.more]
    have HE : Hid (Ch.Rec.bytes ⟨kd, tx, ky, hd, ol, hs, nw⟩ = Ch.withSum [kd, tx / 256, tx % 256, ky, Ch.Rec.flags ⟨kd, tx, ky, hd, ol, hs, nw⟩, ol / 256, ol % 256, nw / 256, nw % 256]) := by show _ = _; simp [Ch.Rec.bytes, HB.out]
    rw [HB.out] at hbts
    clear HB
    have hfl := Ch.Rec.flags_bd ⟨kd, tx, ky, hd, ol, hs, nw⟩
    have flC := flags_any kd tx ky hd ol hs nw
    generalize Ch.Rec.flags ⟨kd, tx, ky, hd, ol, hs, nw⟩ = fl at *
    go_upto_region 6 with (go_at_call 53; refine (tells_any _ _).mono ?_; rintro e w1 ⟨rfl, hw1⟩; subst w1)
    go_cut [4] (fun s wx => ∃ g c, s = .slice (some ⟨g, 0, none⟩) 5 c ∧ wx.ownsRow (w.heap.size + 2) 5 1 (.slice (some ⟨g, 0, none⟩) 5 c) 5 (bts [kd, tx / 256, tx % 256, ky, fl]) ∧ Below (w.heap.size + 2) ((w.alloc (recO kd tx ky hd ol hs nw)).alloc (.cells #[.int .i64 0, .slice none 0 0] 106)) wx)
    case first =>
      have HS : Hid (∀ W', Below (w.heap.size + 2) ((w.alloc (recO kd tx ky hd ol hs nw)).alloc (.cells #[.int .i64 0, .slice none 0 0] 106)) W' → W'.cell? ⟨w.heap.size, 0, none⟩ = some (.int .i64 kd) ∧ W'.cell? ⟨w.heap.size, 1, none⟩ = some (.int .i64 tx) ∧ W'.cell? ⟨w.heap.size, 2, none⟩ = some (.int .i64 ky) ∧ W'.cell? ⟨w.heap.size, 3, none⟩ = some (.bool hd) ∧ W'.cell? ⟨w.heap.size, 4, none⟩ = some (.int .i64 ol) ∧ W'.cell? ⟨w.heap.size, 5, none⟩ = some (.bool hs) ∧ W'.cell? ⟨w.heap.size, 6, none⟩ = some (.int .i64 nw) ∧ Below (w.heap.size + 2) ((w.alloc (recO kd tx ky hd ol hs nw)).alloc (.cells #[.int .i64 0, .slice none 0 0] 106)) W') := fun W' hb => ⟨by simpa using box_at (below_boxT hb) 0, by simpa using box_at (below_boxT hb) 1, by simpa using box_at (below_boxT hb) 2, by simpa using box_at (below_boxT hb) 3, by simpa using box_at (below_boxT hb) 4, by simpa using box_at (below_boxT hb) 5, by simpa using box_at (below_boxT hb) 6, hb⟩
      refine wp_region_noPanic ?_
      refine wp_region_held_drew (S := fun W' => W'.cell? ⟨w.heap.size, 0, none⟩ = some (.int .i64 kd) ∧ W'.cell? ⟨w.heap.size, 1, none⟩ = some (.int .i64 tx) ∧ W'.cell? ⟨w.heap.size, 2, none⟩ = some (.int .i64 ky) ∧ W'.cell? ⟨w.heap.size, 3, none⟩ = some (.bool hd) ∧ W'.cell? ⟨w.heap.size, 4, none⟩ = some (.int .i64 ol) ∧ W'.cell? ⟨w.heap.size, 5, none⟩ = some (.bool hs) ∧ W'.cell? ⟨w.heap.size, 6, none⟩ = some (.int .i64 nw) ∧ Below (w.heap.size + 2) ((w.alloc (recO kd tx ky hd ol hs nw)).alloc (.cells #[.int .i64 0, .slice none 0 0] 106)) W') (by kernel_rfl) (HS.out _ hB.drew) (fun hH => ?_)
      refine hTake (i := 0) (v := ?_) rfl (by kernel_rfl) (by kernel_rfl) (by kernel_rfl) (by rfl) ?_ hH ?_
      rotate_left
      · intro W hW; (try dsimp only at hW); go_simp <;> with_reducible rfl
      simp only [Act.put, List.setIfInBounds_toArray, List.set_cons_zero, List.set_cons_succ]
      refine hTake (i := 1) (v := ?_) rfl (by kernel_rfl) (by kernel_rfl) (by kernel_rfl) (by rfl) ?_ hH ?_
      rotate_left
      · intro W hW; (try dsimp only at hW); go_simp <;> with_reducible rfl
      simp only [Act.put, List.setIfInBounds_toArray, List.set_cons_zero, List.set_cons_succ]
      refine hTake (i := 2) (v := ?_) rfl (by kernel_rfl) (by kernel_rfl) (by kernel_rfl) (by rfl) ?_ hH ?_
      rotate_left
      · intro W hW; (try dsimp only at hW); go_simp <;> with_reducible rfl
      simp only [Act.put, List.setIfInBounds_toArray, List.set_cons_zero, List.set_cons_succ]
      refine hTake (i := 3) (v := ?_) rfl (by kernel_rfl) (by kernel_rfl) (by kernel_rfl) (by rfl) ?_ hH ?_
      rotate_left
      · intro W hW; (try dsimp only at hW); go_simp <;> with_reducible rfl
      simp only [Act.put, List.setIfInBounds_toArray, List.set_cons_zero, List.set_cons_succ]
      refine hTake (i := 4) (v := ?_) rfl (by kernel_rfl) (by kernel_rfl) (by kernel_rfl) (by rfl) ?_ hH ?_
      rotate_left
      · intro W hW; (try dsimp only at hW); go_simp <;> with_reducible rfl
      simp only [Act.put, List.setIfInBounds_toArray, List.set_cons_zero, List.set_cons_succ]
      refine wpAnyH_ready (rs := [5]) (by kernel_rfl) (by simp) ?_
      refine AllReadyH.cons rfl (fun K hK => ?_) AllReadyH.nil
      go_simp
      refine (flC _).mono ?_
      rintro e w1 ⟨rfl, b1⟩
      have bw1 := hH.2.2.2.2.2.2.2.trans (b1.mono (by simp; omega))
      have ow1 := owns_below own.drew b1
      have zw1 := bw1.size
      simp at zw1
      go_wp2_with fail
      refine hK.out _ _ ?_ (fun hH => ?_)
      · exact HS.out _ bw1
      clear hK K
      refine wpAnyH_ready (rs := [6]) (by kernel_rfl) (by simp) ?_
      refine AllReadyH.cons rfl (fun K hK => ?_) AllReadyH.nil
      go_simp
      refine hK.out _ _ ?_ (fun hH => ?_)
      · exact HS.out _ (hH.2.2.2.2.2.2.2.alloc (by omega) _)
      clear hK K
      refine wpAnyH_ready (rs := [7]) (by kernel_rfl) (by simp) ?_
      refine AllReadyH.cons rfl (fun K hK => ?_) AllReadyH.nil
      refine step_appE (.tmp 24) (.tmp 30) (w.heap.size + 2) 3 (bts [kd, tx / 256, tx % 256]) 2 #[.int .u8 ky, .int .u8 fl] ⟨by omega, rfl, by omega⟩ rfl rfl ⟨_, _, rfl, ?_⟩ ⟨_, _, 5, rfl, ?_⟩ ?_ ?_ ?_
      · exact ow1.alloc _
      · exact heap_new' (by simp)
      · simp [Value.oneCell']
      · simp; omega
      intro g2 c2 w2 own2 gr2
      have bw2 := hH.2.2.2.2.2.2.2.trans gr2
      refine hK.out _ _ ?_ (fun hH => ?_)
      · exact HS.out _ bw2
      clear hK K
      simp only [Act.put, List.setIfInBounds_toArray, List.set_cons_zero, List.set_cons_succ]
      refine hTake (i := 8) (v := ?_) rfl (by kernel_rfl) (by kernel_rfl) (by kernel_rfl) (by rfl) ?_ hH ?_
      rotate_left
      · intro W hW; (try dsimp only at hW); go_simp <;> with_reducible rfl
      simp only [Act.put, List.setIfInBounds_toArray, List.set_cons_zero, List.set_cons_succ]
      refine wpAnyH_done (by kernel_rfl) ?_ _
      refine NoPanic.normal ?_
      go_wp2_with fail
      go_meet
      exact ⟨g2, c2, rfl, by simpa [bts] using own2, bw2⟩
    case rest =>
    clear own hB q0 zb
    obtain ⟨g, c, rfl, own, hB⟩ := hcut
    have zb := hB.size
    simp at zb
    go_upto_region 7 with fail
    go_cut [4] (fun s wx => ∃ g c, s = .slice (some ⟨g, 0, none⟩) 7 c ∧ wx.ownsRow (w.heap.size + 2) 5 1 (.slice (some ⟨g, 0, none⟩) 7 c) 7 (bts [kd, tx / 256, tx % 256, ky, fl, ol / 256, ol % 256]) ∧ Below (w.heap.size + 2) ((w.alloc (recO kd tx ky hd ol hs nw)).alloc (.cells #[.int .i64 0, .slice none 0 0] 106)) wx)
    case first =>
      have HS : Hid (∀ W', Below (w.heap.size + 2) ((w.alloc (recO kd tx ky hd ol hs nw)).alloc (.cells #[.int .i64 0, .slice none 0 0] 106)) W' → W'.cell? ⟨w.heap.size, 0, none⟩ = some (.int .i64 kd) ∧ W'.cell? ⟨w.heap.size, 1, none⟩ = some (.int .i64 tx) ∧ W'.cell? ⟨w.heap.size, 2, none⟩ = some (.int .i64 ky) ∧ W'.cell? ⟨w.heap.size, 3, none⟩ = some (.bool hd) ∧ W'.cell? ⟨w.heap.size, 4, none⟩ = some (.int .i64 ol) ∧ W'.cell? ⟨w.heap.size, 5, none⟩ = some (.bool hs) ∧ W'.cell? ⟨w.heap.size, 6, none⟩ = some (.int .i64 nw) ∧ Below (w.heap.size + 2) ((w.alloc (recO kd tx ky hd ol hs nw)).alloc (.cells #[.int .i64 0, .slice none 0 0] 106)) W') := fun W' hb => ⟨by simpa using box_at (below_boxT hb) 0, by simpa using box_at (below_boxT hb) 1, by simpa using box_at (below_boxT hb) 2, by simpa using box_at (below_boxT hb) 3, by simpa using box_at (below_boxT hb) 4, by simpa using box_at (below_boxT hb) 5, by simpa using box_at (below_boxT hb) 6, hb⟩
      refine wp_region_noPanic ?_
      refine wp_region_held_drew (S := fun W' => W'.cell? ⟨w.heap.size, 0, none⟩ = some (.int .i64 kd) ∧ W'.cell? ⟨w.heap.size, 1, none⟩ = some (.int .i64 tx) ∧ W'.cell? ⟨w.heap.size, 2, none⟩ = some (.int .i64 ky) ∧ W'.cell? ⟨w.heap.size, 3, none⟩ = some (.bool hd) ∧ W'.cell? ⟨w.heap.size, 4, none⟩ = some (.int .i64 ol) ∧ W'.cell? ⟨w.heap.size, 5, none⟩ = some (.bool hs) ∧ W'.cell? ⟨w.heap.size, 6, none⟩ = some (.int .i64 nw) ∧ Below (w.heap.size + 2) ((w.alloc (recO kd tx ky hd ol hs nw)).alloc (.cells #[.int .i64 0, .slice none 0 0] 106)) W') (by kernel_rfl) (HS.out _ hB.drew) (fun hH => ?_)
      refine hTake (i := 0) (v := ?_) rfl (by kernel_rfl) (by kernel_rfl) (by kernel_rfl) (by rfl) ?_ hH ?_
      rotate_left
      · intro W hW; (try dsimp only at hW); go_simp <;> with_reducible rfl
      simp only [Act.put, List.setIfInBounds_toArray, List.set_cons_zero, List.set_cons_succ]
      refine hTake (i := 1) (v := ?_) rfl (by kernel_rfl) (by kernel_rfl) (by kernel_rfl) (by rfl) ?_ hH ?_
      rotate_left
      · intro W hW; (try dsimp only at hW); go_simp <;> with_reducible rfl
      simp only [Act.put, List.setIfInBounds_toArray, List.set_cons_zero, List.set_cons_succ]
      refine hTake (i := 2) (v := ?_) rfl (by kernel_rfl) (by kernel_rfl) (by kernel_rfl) (by rfl) ?_ hH ?_
      rotate_left
      · intro W hW; (try dsimp only at hW); go_simp <;> with_reducible rfl
      simp only [Act.put, List.setIfInBounds_toArray, List.set_cons_zero, List.set_cons_succ]
      refine hTake (i := 4) (v := ?_) rfl (by kernel_rfl) (by kernel_rfl) (by kernel_rfl) (by rfl) ?_ hH ?_
      rotate_left
      · intro W hW; (try dsimp only at hW); go_simp <;> with_reducible rfl
      simp only [Act.put, List.setIfInBounds_toArray, List.set_cons_zero, List.set_cons_succ]
      refine hTake (i := 5) (v := ?_) rfl (by kernel_rfl) (by kernel_rfl) (by kernel_rfl) (by rfl) ?_ hH ?_
      rotate_left
      · intro W hW; (try dsimp only at hW); go_simp <;> with_reducible rfl
      simp only [Act.put, List.setIfInBounds_toArray, List.set_cons_zero, List.set_cons_succ]
      refine wpAnyH_ready (rs := [3]) (by kernel_rfl) (by simp) ?_
      refine AllReadyH.cons rfl (fun K hK => ?_) AllReadyH.nil
      go_simp
      refine (high_any _ _ (by omega) (by omega)).mono ?_
      rintro e w1 ⟨rfl, hw1⟩
      subst w1
      go_wp2_with fail
      refine hK.out _ _ ?_ (fun hH => ?_)
      · exact hH
      clear hK K
      refine wpAnyH_ready (rs := [6]) (by kernel_rfl) (by simp) ?_
      refine AllReadyH.cons rfl (fun K hK => ?_) AllReadyH.nil
      go_simp
      refine (low_any _ _ (by omega) (by omega)).mono ?_
      rintro e w1 ⟨rfl, hw1⟩
      subst w1
      go_wp2_with fail
      refine hK.out _ _ ?_ (fun hH => ?_)
      · exact hH
      clear hK K
      refine wpAnyH_ready (rs := [7]) (by kernel_rfl) (by simp) ?_
      refine AllReadyH.cons rfl (fun K hK => ?_) AllReadyH.nil
      go_simp
      refine hK.out _ _ ?_ (fun hH => ?_)
      · exact HS.out _ (hH.2.2.2.2.2.2.2.alloc (by simp; omega) _)
      clear hK K
      refine wpAnyH_ready (rs := [8]) (by kernel_rfl) (by simp) ?_
      refine AllReadyH.cons rfl (fun K hK => ?_) AllReadyH.nil
      refine step_appE (.tmp 32) (.tmp 39) (w.heap.size + 2) 5 (bts [kd, tx / 256, tx % 256, ky, fl]) 2 #[.int .u8 (ol / 256), .int .u8 (ol % 256)] ⟨by omega, rfl, by omega⟩ rfl rfl ⟨_, _, rfl, ?_⟩ ⟨_, _, 5, rfl, ?_⟩ ?_ ?_ ?_
      · exact (own.alloc _).drew
      · exact heap_new' (by simp)
      · simp [Value.oneCell']
      · simp; omega
      intro g2 c2 w2 own2 gr2
      have bw2 := hH.2.2.2.2.2.2.2.trans gr2
      refine hK.out _ _ ?_ (fun hH => ?_)
      · exact HS.out _ bw2
      clear hK K
      simp only [Act.put, List.setIfInBounds_toArray, List.set_cons_zero, List.set_cons_succ]
      refine hTake (i := 9) (v := ?_) rfl (by kernel_rfl) (by kernel_rfl) (by kernel_rfl) (by rfl) ?_ hH ?_
      rotate_left
      · intro W hW; (try dsimp only at hW); go_simp <;> with_reducible rfl
      simp only [Act.put, List.setIfInBounds_toArray, List.set_cons_zero, List.set_cons_succ]
      refine wpAnyH_done (by kernel_rfl) ?_ _
      refine NoPanic.normal ?_
      go_wp2_with fail
      go_meet
      exact ⟨g2, c2, rfl, by simpa [bts] using own2, bw2⟩
    case rest =>
    clear own hB zb
    obtain ⟨g, c, rfl, own, hB⟩ := hcut
    have zb := hB.size
    simp at zb
    go_upto_region 8 with fail
    go_cut [4] (fun s wx => ∃ g c, s = .slice (some ⟨g, 0, none⟩) 9 c ∧ wx.ownsRow (w.heap.size + 2) 5 1 (.slice (some ⟨g, 0, none⟩) 9 c) 9 (bts [kd, tx / 256, tx % 256, ky, fl, ol / 256, ol % 256, nw / 256, nw % 256]) ∧ Below (w.heap.size + 2) ((w.alloc (recO kd tx ky hd ol hs nw)).alloc (.cells #[.int .i64 0, .slice none 0 0] 106)) wx)
    case first =>
      have HS : Hid (∀ W', Below (w.heap.size + 2) ((w.alloc (recO kd tx ky hd ol hs nw)).alloc (.cells #[.int .i64 0, .slice none 0 0] 106)) W' → W'.cell? ⟨w.heap.size, 0, none⟩ = some (.int .i64 kd) ∧ W'.cell? ⟨w.heap.size, 1, none⟩ = some (.int .i64 tx) ∧ W'.cell? ⟨w.heap.size, 2, none⟩ = some (.int .i64 ky) ∧ W'.cell? ⟨w.heap.size, 3, none⟩ = some (.bool hd) ∧ W'.cell? ⟨w.heap.size, 4, none⟩ = some (.int .i64 ol) ∧ W'.cell? ⟨w.heap.size, 5, none⟩ = some (.bool hs) ∧ W'.cell? ⟨w.heap.size, 6, none⟩ = some (.int .i64 nw) ∧ Below (w.heap.size + 2) ((w.alloc (recO kd tx ky hd ol hs nw)).alloc (.cells #[.int .i64 0, .slice none 0 0] 106)) W') := fun W' hb => ⟨by simpa using box_at (below_boxT hb) 0, by simpa using box_at (below_boxT hb) 1, by simpa using box_at (below_boxT hb) 2, by simpa using box_at (below_boxT hb) 3, by simpa using box_at (below_boxT hb) 4, by simpa using box_at (below_boxT hb) 5, by simpa using box_at (below_boxT hb) 6, hb⟩
      refine wp_region_noPanic ?_
      refine wp_region_held_drew (S := fun W' => W'.cell? ⟨w.heap.size, 0, none⟩ = some (.int .i64 kd) ∧ W'.cell? ⟨w.heap.size, 1, none⟩ = some (.int .i64 tx) ∧ W'.cell? ⟨w.heap.size, 2, none⟩ = some (.int .i64 ky) ∧ W'.cell? ⟨w.heap.size, 3, none⟩ = some (.bool hd) ∧ W'.cell? ⟨w.heap.size, 4, none⟩ = some (.int .i64 ol) ∧ W'.cell? ⟨w.heap.size, 5, none⟩ = some (.bool hs) ∧ W'.cell? ⟨w.heap.size, 6, none⟩ = some (.int .i64 nw) ∧ Below (w.heap.size + 2) ((w.alloc (recO kd tx ky hd ol hs nw)).alloc (.cells #[.int .i64 0, .slice none 0 0] 106)) W') (by kernel_rfl) (HS.out _ hB.drew) (fun hH => ?_)
      refine hTake (i := 0) (v := ?_) rfl (by kernel_rfl) (by kernel_rfl) (by kernel_rfl) (by rfl) ?_ hH ?_
      rotate_left
      · intro W hW; (try dsimp only at hW); go_simp <;> with_reducible rfl
      simp only [Act.put, List.setIfInBounds_toArray, List.set_cons_zero, List.set_cons_succ]
      refine hTake (i := 1) (v := ?_) rfl (by kernel_rfl) (by kernel_rfl) (by kernel_rfl) (by rfl) ?_ hH ?_
      rotate_left
      · intro W hW; (try dsimp only at hW); go_simp <;> with_reducible rfl
      simp only [Act.put, List.setIfInBounds_toArray, List.set_cons_zero, List.set_cons_succ]
      refine hTake (i := 2) (v := ?_) rfl (by kernel_rfl) (by kernel_rfl) (by kernel_rfl) (by rfl) ?_ hH ?_
      rotate_left
      · intro W hW; (try dsimp only at hW); go_simp <;> with_reducible rfl
      simp only [Act.put, List.setIfInBounds_toArray, List.set_cons_zero, List.set_cons_succ]
      refine hTake (i := 4) (v := ?_) rfl (by kernel_rfl) (by kernel_rfl) (by kernel_rfl) (by rfl) ?_ hH ?_
      rotate_left
      · intro W hW; (try dsimp only at hW); go_simp <;> with_reducible rfl
      simp only [Act.put, List.setIfInBounds_toArray, List.set_cons_zero, List.set_cons_succ]
      refine hTake (i := 5) (v := ?_) rfl (by kernel_rfl) (by kernel_rfl) (by kernel_rfl) (by rfl) ?_ hH ?_
      rotate_left
      · intro W hW; (try dsimp only at hW); go_simp <;> with_reducible rfl
      simp only [Act.put, List.setIfInBounds_toArray, List.set_cons_zero, List.set_cons_succ]
      refine wpAnyH_ready (rs := [3]) (by kernel_rfl) (by simp) ?_
      refine AllReadyH.cons rfl (fun K hK => ?_) AllReadyH.nil
      go_simp
      refine (high_any _ _ (by omega) (by omega)).mono ?_
      rintro e w1 ⟨rfl, hw1⟩
      subst w1
      go_wp2_with fail
      refine hK.out _ _ ?_ (fun hH => ?_)
      · exact hH
      clear hK K
      refine wpAnyH_ready (rs := [6]) (by kernel_rfl) (by simp) ?_
      refine AllReadyH.cons rfl (fun K hK => ?_) AllReadyH.nil
      go_simp
      refine (low_any _ _ (by omega) (by omega)).mono ?_
      rintro e w1 ⟨rfl, hw1⟩
      subst w1
      go_wp2_with fail
      refine hK.out _ _ ?_ (fun hH => ?_)
      · exact hH
      clear hK K
      refine wpAnyH_ready (rs := [7]) (by kernel_rfl) (by simp) ?_
      refine AllReadyH.cons rfl (fun K hK => ?_) AllReadyH.nil
      go_simp
      refine hK.out _ _ ?_ (fun hH => ?_)
      · exact HS.out _ (hH.2.2.2.2.2.2.2.alloc (by simp; omega) _)
      clear hK K
      refine wpAnyH_ready (rs := [8]) (by kernel_rfl) (by simp) ?_
      refine AllReadyH.cons rfl (fun K hK => ?_) AllReadyH.nil
      refine step_appE (.tmp 41) (.tmp 48) (w.heap.size + 2) 7 (bts [kd, tx / 256, tx % 256, ky, fl, ol / 256, ol % 256]) 2 #[.int .u8 (nw / 256), .int .u8 (nw % 256)] ⟨by omega, rfl, by omega⟩ rfl rfl ⟨_, _, rfl, ?_⟩ ⟨_, _, 5, rfl, ?_⟩ ?_ ?_ ?_
      · exact (own.alloc _).drew
      · exact heap_new' (by simp)
      · simp [Value.oneCell']
      · simp; omega
      intro g2 c2 w2 own2 gr2
      have bw2 := hH.2.2.2.2.2.2.2.trans gr2
      refine hK.out _ _ ?_ (fun hH => ?_)
      · exact HS.out _ bw2
      clear hK K
      simp only [Act.put, List.setIfInBounds_toArray, List.set_cons_zero, List.set_cons_succ]
      refine hTake (i := 9) (v := ?_) rfl (by kernel_rfl) (by kernel_rfl) (by kernel_rfl) (by rfl) ?_ hH ?_
      rotate_left
      · intro W hW; (try dsimp only at hW); go_simp <;> with_reducible rfl
      simp only [Act.put, List.setIfInBounds_toArray, List.set_cons_zero, List.set_cons_succ]
      refine wpAnyH_done (by kernel_rfl) ?_ _
      refine NoPanic.normal ?_
      go_wp2_with fail
      go_meet
      exact ⟨g2, c2, rfl, by simpa [bts] using own2, bw2⟩
    case rest =>
    clear own hB zb
    obtain ⟨g, c, rfl, own, hB⟩ := hcut
    have zb := hB.size
    simp at zb
    generalize hp : [kd, tx / 256, tx % 256, ky, fl, ol / 256, ol % 256, nw / 256, nw % 256] = p at *
    go_wp2_with fail
    refine (appendSum_any (w.heap.size + 2) g 9 c p _ own zb (by omega) hbts).mono ?_
    rintro e w2 ⟨g2, c2, rfl, own2, b2⟩
    have b2' := hB.trans b2
    have q0 := box_at2 b2' 0
    have q1 := box_at2 b2' 1
    have f0 := b2'.frozen (p := ⟨w.heap.size + 1, 0, none⟩) (by simp)
    have f1 := b2'.frozen (p := ⟨w.heap.size + 1, 1, none⟩) (by simp)
    simp [go_sem] at q0 q1 f0 f1
    have hg2 := owns_bounds own2
    go_wp2
    rw [HL.out, HE.out]
    refine bodyPost_ret (v := .agg #[.int .i64 0, .slice (some ⟨g2, 0, none⟩) (11) c2]) (by simp [results, Tryz.results69, go_sem, q0, q1]) rfl ⟨g2, c2, rfl, ?_, ?_⟩
    · exact owns_base (ownsRow_setCell_below (ownsRow_setCell_below own2 (by simp) _) (by simp) _) (by omega)
    · exact ((below_boxS (below_boxT b2')).setCell (p := ⟨w.heap.size + 1, 0, none⟩) (by simp) _).setCell (p := ⟨w.heap.size + 1, 1, none⟩) (by simp) _
end Go.Proofs.YtoijjjckdggglaaGreat


/- PackRec of the model; both in one form; the law FnExactPackRec. -/
namespace Go.Proofs.YtoijjjckdggglaaGreat
open Go.RowKit

/-- The bytes that PackRec hands back. -/
def Ch.Rec.res (r : Ch.Rec) : List Int := if r.fault = 0 then r.bytes else []

theorem implPackRec_any (kd tx ky : Int) (hd : Bool) (ol : Int) (hs : Bool) (nw : Int) (w : World) :
    Calls Tryz.prog 69 #[.agg #[.int .i64 kd, .int .i64 tx, .int .i64 ky, .bool hd, .int .i64 ol, .bool hs, .int .i64 nw]] w fun e w' => ∃ a' m c', e = .returned (.agg #[.int .i64 (Ch.Rec.fault ⟨kd, tx, ky, hd, ol, hs, nw⟩), .slice a' m c']) ∧ m ≤ 11 ∧ w'.ownsRow w.heap.size 5 1 (.slice a' m c') m (bts (Ch.Rec.res ⟨kd, tx, ky, hd, ol, hs, nw⟩)) ∧ Below w.heap.size w w' := by
  by_cases h0 : Ch.Rec.fault ⟨kd, tx, ky, hd, ol, hs, nw⟩ = 0
  · refine (implPackRec_ok kd tx ky hd ol hs nw w h0).mono ?_
    rintro e w' ⟨g, cp, rfl, own, b⟩
    refine ⟨_, _, _, by rw [h0], (Ch.Rec.len_bd _).2, ?_, b⟩
    unfold Ch.Rec.res
    rw [if_pos h0]
    exact own
  · refine (implPackRec_no kd tx ky hd ol hs nw w _ rfl (by simpa using h0)).mono ?_
    rintro e w' ⟨rfl, b⟩
    refine ⟨_, _, _, rfl, by omega, ?_, b⟩
    unfold Ch.Rec.res
    rw [if_neg h0]
    exact World.ownsRow_nil _ _ _ _

theorem box7 {w w1 : World} {t : TypeId} {c0 c1 c2 c3 c4 c5 c6 : Value} (b : Below (w.alloc (.cells #[c0, c1, c2, c3, c4, c5, c6] t)).heap.size (w.alloc (.cells #[c0, c1, c2, c3, c4, c5, c6] t)) w1) :
    w1.cell? ⟨w.heap.size, 0, none⟩ = some c0 ∧ w1.cell? ⟨w.heap.size, 1, none⟩ = some c1 ∧ w1.cell? ⟨w.heap.size, 2, none⟩ = some c2 ∧ w1.cell? ⟨w.heap.size, 3, none⟩ = some c3 ∧ w1.cell? ⟨w.heap.size, 4, none⟩ = some c4 ∧ w1.cell? ⟨w.heap.size, 5, none⟩ = some c5 ∧ w1.cell? ⟨w.heap.size, 6, none⟩ = some c6 :=
  ⟨box_cell b 0, box_cell b 1, box_cell b 2, box_cell b 3, box_cell b 4, box_cell b 5, box_cell b 6⟩

end Go.Proofs.YtoijjjckdggglaaGreat


/- Walks of the record that bytes would be: the program's. -/
namespace Go.Proofs.YtoijjjckdggglaaGreat
open Go.RowKit

theorem and_one (z : Int) (h0 : 0 ≤ z) (h1 : z ≤ 255) : (bits .and .u8 z 1 != 0) = (z % 2 == 1) := by
  rw [u8_and z 1 h0 (by omega) (by omega) (by omega)]
  obtain ⟨n, rfl⟩ := Int.eq_ofNat_of_zero_le h0
  have : n &&& 1 = n % 2 := Nat.and_one_is_mod n
  simp only [Int.toNat_natCast]
  have e : ((1 : Int).toNat) = 1 := rfl
  rw [e, this]
  rcases Nat.mod_two_eq_zero_or_one n with h | h
  · have h2 : ((n : Int) % 2) = 0 := by omega
    simp [h, h2]
  · have h2 : ((n : Int) % 2) = 1 := by omega
    simp [h, h2]
theorem and_two (z : Int) (h0 : 0 ≤ z) (h1 : z ≤ 255) : (bits .and .u8 z 2 != 0) = (z / 2 % 2 == 1) := by
  rw [u8_and z 2 h0 (by omega) (by omega) (by omega)]
  obtain ⟨n, rfl⟩ := Int.eq_ofNat_of_zero_le h0
  have hn : n < 256 := by omega
  have e : ((2 : Int).toNat) = 2 := rfl
  simp only [Int.toNat_natCast]
  rw [e]
  have key : ∀ n : Fin 256, (((n.val &&& 2 : Nat) : Int) != 0) = ((n.val : Int) / 2 % 2 == 1) := by decide +kernel
  exact key ⟨n, hn⟩

/-- A record as a value. -/
def recV (r : Ch.Rec) : Value := .agg #[.int .i64 r.kd, .int .i64 r.tx, .int .i64 r.ky, .bool r.hd, .int .i64 r.ol, .bool r.hs, .int .i64 r.nw]

set_option linter.unusedSimpArgs false in
set_option maxHeartbeats 2000000 in
theorem unpack_any (b0 b1 b2 b3 b4 b5 b6 b7 b8 : Int) (w : World) (p0 : 0 ≤ b0) (q0 : b0 ≤ 255) (p1 : 0 ≤ b1) (q1 : b1 ≤ 255) (p2 : 0 ≤ b2) (q2 : b2 ≤ 255) (p3 : 0 ≤ b3) (q3 : b3 ≤ 255) (p4 : 0 ≤ b4) (q4 : b4 ≤ 255) (p5 : 0 ≤ b5) (q5 : b5 ≤ 255) (p6 : 0 ≤ b6) (q6 : b6 ≤ 255) (p7 : 0 ≤ b7) (q7 : b7 ≤ 255) (p8 : 0 ≤ b8) (q8 : b8 ≤ 255) :
    Calls Tryz.prog 68 #[.agg #[.int .u8 b0, .int .u8 b1, .int .u8 b2, .int .u8 b3, .int .u8 b4, .int .u8 b5, .int .u8 b6, .int .u8 b7, .int .u8 b8]] w fun e w' => e = .returned (recV (Ch.unp [b0, b1, b2, b3, b4, b5, b6, b7, b8])) ∧ Below w.heap.size w w' := by
  have n1 := and_one b4 p4 q4
  have n2 := and_two b4 p4 q4
  have hw0 : IntKind.i64.wrap b0 = b0 := IntWalk.i64_in b0 ⟨by omega, by omega⟩
  have hw3 : IntKind.i64.wrap b3 = b3 := IntWalk.i64_in b3 ⟨by omega, by omega⟩
  go_enter Tryz.func68, Tryz.ntmps68
  go_upto_region 1 with fail
  go_cut [3] (fun s wx => s = .pointer (some ⟨w.heap.size + 2, 0, none⟩) ∧ wx = (((w.alloc (.cells #[.int .u8 b0, .int .u8 b1, .int .u8 b2, .int .u8 b3, .int .u8 b4, .int .u8 b5, .int .u8 b6, .int .u8 b7, .int .u8 b8] 103)).alloc (.cells #[.int .i64 0, .int .i64 0, .int .i64 0, .bool false, .int .i64 0, .bool false, .int .i64 0] 54)).alloc (recO b0 (b1 * 256 + b2) 0 false 0 false 0)).drew)
  case first =>
    have HS : Hid (∀ W', Below (w.heap.size + 2) ((w.alloc (.cells #[.int .u8 b0, .int .u8 b1, .int .u8 b2, .int .u8 b3, .int .u8 b4, .int .u8 b5, .int .u8 b6, .int .u8 b7, .int .u8 b8] 103)).alloc (.cells #[.int .i64 0, .int .i64 0, .int .i64 0, .bool false, .int .i64 0, .bool false, .int .i64 0] 54)) W' → W'.cell? ⟨w.heap.size, 0, none⟩ = some (.int .u8 b0) ∧ W'.cell? ⟨w.heap.size, 1, none⟩ = some (.int .u8 b1) ∧ W'.cell? ⟨w.heap.size, 2, none⟩ = some (.int .u8 b2) ∧ Below (w.heap.size + 2) ((w.alloc (.cells #[.int .u8 b0, .int .u8 b1, .int .u8 b2, .int .u8 b3, .int .u8 b4, .int .u8 b5, .int .u8 b6, .int .u8 b7, .int .u8 b8] 103)).alloc (.cells #[.int .i64 0, .int .i64 0, .int .i64 0, .bool false, .int .i64 0, .bool false, .int .i64 0] 54)) W') := fun W' hb => ⟨by simpa using box_at (below_boxT hb) 0, by simpa using box_at (below_boxT hb) 1, by simpa using box_at (below_boxT hb) 2, hb⟩
    refine wp_region_noPanic ?_
    refine wp_region_held_drew (S := fun W' => W'.cell? ⟨w.heap.size, 0, none⟩ = some (.int .u8 b0) ∧ W'.cell? ⟨w.heap.size, 1, none⟩ = some (.int .u8 b1) ∧ W'.cell? ⟨w.heap.size, 2, none⟩ = some (.int .u8 b2) ∧ Below (w.heap.size + 2) ((w.alloc (.cells #[.int .u8 b0, .int .u8 b1, .int .u8 b2, .int .u8 b3, .int .u8 b4, .int .u8 b5, .int .u8 b6, .int .u8 b7, .int .u8 b8] 103)).alloc (.cells #[.int .i64 0, .int .i64 0, .int .i64 0, .bool false, .int .i64 0, .bool false, .int .i64 0] 54)) W') (by kernel_rfl) (HS.out _ (Below.refl _ _).drew) (fun hH => ?_)
    refine hTake (i := 0) (v := ?_) rfl (by kernel_rfl) (by kernel_rfl) (by kernel_rfl) (by rfl) ?_ hH ?_
    rotate_left
    · intro W hW; (try dsimp only at hW); go_simp <;> with_reducible rfl
    simp only [Act.put, List.setIfInBounds_toArray, List.set_cons_zero, List.set_cons_succ]
    refine hTake (i := 1) (v := ?_) rfl (by kernel_rfl) (by kernel_rfl) (by kernel_rfl) (by rfl) ?_ hH ?_
    rotate_left
    · intro W hW; (try dsimp only at hW); go_simp <;> with_reducible rfl
    simp only [Act.put, List.setIfInBounds_toArray, List.set_cons_zero, List.set_cons_succ]
    refine hTake (i := 2) (v := ?_) rfl (by kernel_rfl) (by kernel_rfl) (by kernel_rfl) (by rfl) ?_ hH ?_
    rotate_left
    · intro W hW; (try dsimp only at hW); go_simp <;> with_reducible rfl
    simp only [Act.put, List.setIfInBounds_toArray, List.set_cons_zero, List.set_cons_succ]
    refine hTake (i := 3) (v := ?_) rfl (by kernel_rfl) (by kernel_rfl) (by kernel_rfl) (by rfl) ?_ hH ?_
    rotate_left
    · intro W hW; (try dsimp only at hW); go_simp <;> with_reducible rfl
    simp only [Act.put, List.setIfInBounds_toArray, List.set_cons_zero, List.set_cons_succ]
    refine hTake (i := 4) (v := ?_) rfl (by kernel_rfl) (by kernel_rfl) (by kernel_rfl) (by rfl) ?_ hH ?_
    rotate_left
    · intro W hW; (try dsimp only at hW); go_simp <;> with_reducible rfl
    simp only [Act.put, List.setIfInBounds_toArray, List.set_cons_zero, List.set_cons_succ]
    refine hTake (i := 5) (v := ?_) rfl (by kernel_rfl) (by kernel_rfl) (by kernel_rfl) (by rfl) ?_ hH ?_
    rotate_left
    · intro W hW; (try dsimp only at hW); go_simp <;> with_reducible rfl
    simp only [Act.put, List.setIfInBounds_toArray, List.set_cons_zero, List.set_cons_succ]
    refine hTake (i := 6) (v := ?_) rfl (by kernel_rfl) (by kernel_rfl) (by kernel_rfl) (by rfl) ?_ hH ?_
    rotate_left
    · intro W hW; (try dsimp only at hW); go_simp <;> with_reducible rfl
    simp only [Act.put, List.setIfInBounds_toArray, List.set_cons_zero, List.set_cons_succ]
    refine wpAnyH_ready (rs := [7, 9]) (by kernel_rfl) (by simp) ?_
    refine AllReadyH.cons rfl (fun K hK => ?_) (AllReadyH.cons rfl (fun K hK => ?_) AllReadyH.nil)
    focus
      go_simp
      refine (join_any _ _ _ p1 q1 p2 q2).mono ?_
      rintro e w1 ⟨rfl, hw1⟩
      subst w1
      go_wp2_with fail
      refine hK.out _ _ ?_ (fun hH => ?_)
      · exact hH
      clear hK K
      refine hTake (i := 8) (v := ?_) rfl (by kernel_rfl) (by kernel_rfl) (by kernel_rfl) (by rfl) ?_ hH ?_
      rotate_left
      · intro W hW; (try dsimp only at hW); go_simp <;> with_reducible rfl
      simp only [Act.put, List.setIfInBounds_toArray, List.set_cons_zero, List.set_cons_succ]
      refine wpAnyH_ready (rs := [9]) (by kernel_rfl) (by simp) ?_
      refine AllReadyH.cons rfl (fun K hK => ?_) AllReadyH.nil
      go_simp
      refine hK.out _ _ ?_ (fun hH => ?_)
      · exact HS.out _ (hH.2.2.2.alloc (by simp) _)
      clear hK K
      refine wpAnyH_ready (rs := [10]) (by kernel_rfl) (by simp) ?_
      refine AllReadyH.cons rfl (fun K hK => ?_) AllReadyH.nil
      go_simp
      refine hK.out _ _ ?_ (fun hH => ?_)
      · exact HS.out _ (((Below.refl _ _).drew.alloc (by simp) _))
      clear hK K
      refine wpAnyH_done (by kernel_rfl) ?_ _
      refine NoPanic.normal ?_
    rotate_left
    focus
      go_simp
      refine hK.out _ _ ?_ (fun hH => ?_)
      · exact HS.out _ (hH.2.2.2.alloc (by simp) _)
      clear hK K
      refine wpAnyH_ready (rs := [7]) (by kernel_rfl) (by simp) ?_
      refine AllReadyH.cons rfl (fun K hK => ?_) AllReadyH.nil
      go_simp
      refine (join_any _ _ _ p1 q1 p2 q2).mono ?_
      rintro e w1 ⟨rfl, hw1⟩
      subst w1
      go_wp2_with fail
      refine hK.out _ _ ?_ (fun hH => ?_)
      · exact hH
      clear hK K
      refine hTake (i := 8) (v := ?_) rfl (by kernel_rfl) (by kernel_rfl) (by kernel_rfl) (by rfl) ?_ hH ?_
      rotate_left
      · intro W hW; (try dsimp only at hW); go_simp <;> with_reducible rfl
      simp only [Act.put, List.setIfInBounds_toArray, List.set_cons_zero, List.set_cons_succ]
      refine wpAnyH_ready (rs := [10]) (by kernel_rfl) (by simp) ?_
      refine AllReadyH.cons rfl (fun K hK => ?_) AllReadyH.nil
      go_simp
      refine hK.out _ _ ?_ (fun hH => ?_)
      · exact HS.out _ (((Below.refl _ _).drew.alloc (by simp) _))
      clear hK K
      refine wpAnyH_done (by kernel_rfl) ?_ _
      refine NoPanic.normal ?_
    rotate_left
    all_goals
      go_wp2_with fail
      go_meet
      exact ⟨rfl, rfl⟩
  case rest =>
  obtain ⟨rfl, rfl⟩ := hcut
  cases hset : Ch.sets b0
  · go_wp2_with (go_at_call 53; refine (tells_any _ _).mono ?_; rintro e w1 ⟨rfl, hw1⟩; subst w1)
    refine bodyPost_ret (v := .agg #[.int .i64 b0, .int .i64 (b1 * 256 + b2), .int .i64 0, .bool false, .int .i64 0, .bool false, .int .i64 0]) (by simp [results, Tryz.results68, go_sem]) rfl ⟨?_, ?_⟩
    · simp [recV, Ch.unp, hset]
    · repeat (first | exact Below.refl _ _ | refine Below.drew ?_ | refine Below.alloc ?_ (by first | omega | (simp; done) | (simp; omega)) _)
  · go_wp2_with (first | (go_at_call 53; refine (tells_any _ _).mono ?_; rintro e w1 ⟨rfl, hw1⟩; subst w1) | (go_at_call 77; refine (join_any _ _ _ (by assumption) (by assumption) (by assumption) (by assumption)).mono ?_; rintro e w1 ⟨rfl, hw1⟩; subst w1))
    refine bodyPost_ret (v := .agg #[.int .i64 b0, .int .i64 (b1 * 256 + b2), .int .i64 b3, .bool (b4 % 2 == 1), .int .i64 (b5 * 256 + b6), .bool (b4 / 2 % 2 == 1), .int .i64 (b7 * 256 + b8)]) (by simp [results, Tryz.results68, go_sem]) rfl ⟨?_, ?_⟩
    · simp [recV, Ch.unp, hset]
    · repeat (first | exact Below.refl _ _ | refine Below.drew ?_ | refine Below.alloc ?_ (by first | omega | (simp; done) | (simp; omega)) _)
end Go.Proofs.YtoijjjckdggglaaGreat


/- Walks of bytes held against bytes: string(b), bytes.Equal, bytes.HasPrefix. -/
namespace Go.Proofs.YtoijjjckdggglaaGreat
open Go.RowKit

theorem conv_none (w : World) (a : Option Addr) (cap : Nat) : (convert 23 9 (.slice a 0 cap)).run Tryz.prog w = .ok (.string (strOfNums [])) w := by
  rw [run_convert_bytes_string w 23 9 5 _ 0 cap Tryz.underlying23 Tryz.underlying5 Tryz.underlying9]
  cases a
  all_goals
    simp [Conv.bytesToString, loadCells]
    rfl

theorem conv_any {w : World} {a : Option Addr} {n : Nat} {zs : List Int} (h : CellsAt w a n (bts zs)) (cap : Nat) :
    (convert 23 9 (.slice a n cap)).run Tryz.prog w = .ok (.string (strOfNums zs)) w := by
  have hl := h.len.out
  rcases Nat.eq_zero_or_pos n with hn | hn
  · subst hn
    obtain rfl : zs = [] := List.eq_nil_of_length_eq_zero hl.symm
    exact conv_none w a cap
  · obtain ⟨b, off, rfl, hc⟩ := h.2 hn
    refine run_convert_bytes_arg w 23 5 Tryz.underlying23 Tryz.underlying5 b off n cap zs hl.symm (fun i hi => ?_) 9 Tryz.underlying9
    rw [hc i hi]
    simp [bts, List.getD, show i < zs.length by omega]

theorem byte_inj {x y : Int} (h0 : 0 ≤ x) (h1 : x ≤ 255) (k0 : 0 ≤ y) (k1 : y ≤ 255) (h : UInt8.ofNat x.toNat = UInt8.ofNat y.toNat) : x = y := by
  have := congrArg UInt8.toNat h
  simp only [UInt8.toNat_ofNat'] at this
  omega

theorem nums_eq {xs ys : List Int} (hx : IsB xs) (hy : IsB ys) : ((strOfNums xs).toList == (strOfNums ys).toList) = decide (xs = ys) := by
  rw [ByteArray.toList_eq, ByteArray.toList_eq, strOfNums_data, strOfNums_data]
  by_cases h : xs = ys
  · subst h; simp
  · rw [decide_eq_false h, beq_eq_false_iff_ne]
    intro he
    apply h
    apply List.ext_getElem?
    intro i
    have hi := congrArg (fun l => l[i]?) he
    simp only [List.getElem?_map] at hi
    have bx := hx i
    have bY := hy i
    simp only [List.getD] at bx bY
    cases hxi : xs[i]? with
    | none =>
      cases hyi : ys[i]? with
      | none => rfl
      | some y => rw [hxi, hyi] at hi; simp at hi
    | some x =>
      cases hyi : ys[i]? with
      | none => rw [hxi, hyi] at hi; simp at hi
      | some y =>
        rw [hxi, hyi] at hi
        rw [hxi] at bx
        rw [hyi] at bY
        simp only [Option.map_some, Option.some.injEq] at hi
        simp only [Option.getD_some] at bx bY
        rw [byte_inj bx.1 bx.2 bY.1 bY.2 hi]

theorem equal_any (a a' : Option Addr) (n m cap cap' : Nat) (xs ys : List Int) (w : World) (h : CellsAt w a n (bts xs)) (h' : CellsAt w a' m (bts ys)) (hx : IsB xs) (hy : IsB ys) :
    Calls Tryz.prog 82 #[.slice a n cap, .slice a' m cap'] w fun e w' => e = .returned (.bool (decide (xs = ys))) ∧ w' = w := by
  have c1 := conv_any h cap
  have c2 := conv_any h' cap'
  have E := nums_eq hx hy
  go_enter Tryz.func82, Tryz.ntmps82
  go_wp2
  go_ret
  exact ⟨by simp, rfl⟩

theorem CellsAt.take {w : World} {a : Option Addr} {n m : Nat} {xs : List Int} (h : CellsAt w a n (bts xs)) (hm : m ≤ n) : CellsAt w a m (bts (xs.take m)) := by
  have hl := h.len.out
  refine ⟨by simp [bts]; omega, fun h0 => ?_⟩
  obtain ⟨b, off, ha, hc⟩ := h.2 (by omega)
  refine ⟨b, off, ha, fun i hi => ?_⟩
  rw [hc i (by omega)]
  simp [bts, hi]

theorem isB_take {xs : List Int} (h : IsB xs) (m : Nat) : IsB (xs.take m) := by
  intro i
  have := h i
  by_cases hi : i < m
  · simpa [List.getD, List.getElem?_take, hi] using this
  · simp [List.getElem?_take, hi]

theorem isB_drop {xs : List Int} (h : IsB xs) (m : Nat) : IsB (xs.drop m) := by
  intro i
  have := h (m + i)
  simpa [List.getD, List.getElem?_drop] using this

theorem prefix_iff {xs ys : List Int} : decide (xs.take ys.length = ys) = decide (ys <+: xs) := by
  by_cases hp : ys <+: xs
  · rw [decide_eq_true hp, decide_eq_true_eq]
    exact (List.prefix_iff_eq_take.1 hp).symm
  · rw [decide_eq_false hp, decide_eq_false_iff_not]
    intro he
    exact hp (he ▸ List.take_prefix _ _)

set_option maxHeartbeats 400000 in
theorem hasPrefix_any (a a' : Option Addr) (n m cap cap' : Nat) (xs ys : List Int) (w : World) (h : CellsAt w a n (bts xs)) (h' : CellsAt w a' m (bts ys)) (hx : IsB xs) (hy : IsB ys) (hm : 0 < m) (hn : n ≤ 1099511627776) (hm' : m ≤ 1099511627776) (hcap : n ≤ cap) :
    Calls Tryz.prog 70 #[.slice a n cap, .slice a' m cap'] w fun e w' => e = .returned (.bool (decide (ys <+: xs))) ∧ w' = w := by
  have HL := h.len
  have HL' := h'.len
  by_cases hle : m ≤ n
  · have ht := h.take hle
    obtain ⟨b, off, rfl, _⟩ := h.2 (by omega)
    have i1 : (m : Int) ≤ (n : Int) := by omega
    have i2 : (m : Int) ≤ (cap : Int) := by omega
    have HP := prefix_iff (xs := xs) (ys := ys)
    rw [← HP, ← HL'.out]
    clear HP
    go_enter Tryz.func70, Tryz.ntmps70
    go_wp2_with fail
    refine (equal_any _ _ m m _ _ _ _ _ ht h' (isB_take hx m) hy).mono ?_
    rintro e w1 ⟨rfl, hw1⟩
    subst w1
    go_wp2
    go_ret
    exact ⟨rfl, rfl⟩
  · have i1 : ¬ (m : Int) ≤ (n : Int) := by omega
    have HP : Hid (¬ ys <+: xs) := by
      intro hp
      have := hp.length_le
      have := HL.out
      have := HL'.out
      omega
    rw [decide_eq_false HP.out]
    go_enter Tryz.func70, Tryz.ntmps70
    go_wp2_with fail
    go_ret
    exact ⟨rfl, rfl⟩
end Go.Proofs.YtoijjjckdggglaaGreat


/- Walks of the first record of bytes: the program's. -/
namespace Go.Proofs.YtoijjjckdggglaaGreat
open Go.RowKit

/-- What firstRec answers. -/
def Ch.firstV (zs : List Int) : Ch.Rec × Nat := match Ch.first zs with
  | some r => (r, r.len)
  | none => (Ch.Rec.zero, 0)
theorem Ch.firstV_some {zs : List Int} (h0 : (Ch.unp zs).fault = 0) (h1 : (Ch.unp zs).bytes <+: zs) : Ch.firstV zs = (Ch.unp zs, (Ch.unp zs).len) := by
  unfold Ch.firstV Ch.first
  rw [if_pos ⟨h0, h1⟩]
theorem Ch.firstV_none {zs : List Int} (h : ¬ ((Ch.unp zs).fault = 0 ∧ (Ch.unp zs).bytes <+: zs)) : Ch.firstV zs = (Ch.Rec.zero, 0) := by
  unfold Ch.firstV Ch.first
  rw [if_neg h]

/-- Nine bytes, padded. -/
def Ch.nine (zs : List Int) : List Int := [zs.getD 0 0, zs.getD 1 0, zs.getD 2 0, zs.getD 3 0, zs.getD 4 0, zs.getD 5 0, zs.getD 6 0, zs.getD 7 0, zs.getD 8 0]
theorem Ch.unp_nine (zs : List Int) : Ch.unp (Ch.nine zs) = Ch.unp zs := rfl

theorem pad9 (zs : List Int) : splice [Value.int .u8 0, Value.int .u8 0, Value.int .u8 0, Value.int .u8 0, Value.int .u8 0, Value.int .u8 0, Value.int .u8 0, Value.int .u8 0, Value.int .u8 0] 0 (bts (zs.take 9)) = bts (Ch.nine zs) := by
  match zs with
  | [] => rfl
  | [_] => rfl
  | [_, _] => rfl
  | [_, _, _] => rfl
  | [_, _, _, _] => rfl
  | [_, _, _, _, _] => rfl
  | [_, _, _, _, _, _] => rfl
  | [_, _, _, _, _, _, _] => rfl
  | [_, _, _, _, _, _, _, _] => rfl
  | _ :: _ :: _ :: _ :: _ :: _ :: _ :: _ :: _ :: _ => simp [splice, bts, Ch.nine]

theorem cells_src {w : World} {a : Option Addr} {n : Nat} {zs : List Int} (h : CellsAt w a n (bts zs)) (k : Nat) : 0 < (bts (zs.take k)).length → ∃ ad, a = some ad ∧ ∀ j v, (bts (zs.take k))[j]? = some v → w.cell? (ad.add j) = some v := by
  intro h0
  have hl := h.len.out
  obtain ⟨b, off, ha, hc⟩ := h.2 (by simp [bts] at h0; omega)
  refine ⟨_, ha, fun j v hj => ?_⟩
  have hjl : j < (bts (zs.take k)).length := (List.getElem?_eq_some_iff.1 hj).1
  simp [bts] at hjl
  have e : (⟨b, off, none⟩ : Addr).add j = ⟨b, off + j, none⟩ := by
    unfold Addr.add
    split
    · next h0 => subst h0; rfl
    · rfl
  rw [e, hc j (by omega), ← hj]
  simp [bts, show j < k by omega]

theorem Tryz.size5 : (Tryz.prog.info? 5).map (·.size) = some 1 := by kernel_rfl

/-- The copy of bytes into an array of nine. -/
theorem copy9 (w : World) (a : Option Addr) (n cap : Nat) (zs : List Int) (h : CellsAt w a n (bts zs)) :
    ∃ c w', (Builtin.copy_ #[23, 23] 3 #[.slice (some ⟨w.heap.size, 0, none⟩) 9 9, .slice a n cap]).run Tryz.prog (w.alloc (.cells #[.int .u8 0, .int .u8 0, .int .u8 0, .int .u8 0, .int .u8 0, .int .u8 0, .int .u8 0, .int .u8 0, .int .u8 0] 103)) = .ok c w' ∧
      w'.heap[w.heap.size]? = some (.cells (bts (Ch.nine zs)).toArray 103 (0, 0)) ∧ Below w.heap.size w w' ∧ w'.heap.size = w.heap.size + 1 := by
  have hl := h.len.out
  have hB : Below w.heap.size w (w.alloc (.cells #[.int .u8 0, .int .u8 0, .int .u8 0, .int .u8 0, .int .u8 0, .int .u8 0, .int .u8 0, .int .u8 0, .int .u8 0] 103)) := (Below.refl _ _).alloc (Nat.le_refl _) _
  have hg : (w.alloc (.cells #[.int .u8 0, .int .u8 0, .int .u8 0, .int .u8 0, .int .u8 0, .int .u8 0, .int .u8 0, .int .u8 0, .int .u8 0] 103)).heap[w.heap.size]? = some (.cells #[.int .u8 0, .int .u8 0, .int .u8 0, .int .u8 0, .int .u8 0, .int .u8 0, .int .u8 0, .int .u8 0, .int .u8 0] 103 (0, 0)) := heap_new' rfl
  have hp := pad9 zs
  by_cases h0 : n = 0
  · obtain rfl : zs = [] := List.eq_nil_of_length_eq_zero (by omega)
    refine ⟨_, _, run_copy_none (P := Tryz.prog) _ 23 23 3 5 _ _ 9 9 n cap Tryz.underlying23 Tryz.size5 (by subst h0; rfl), hg, hB, by simp⟩
  · have hcl : 0 < (bts (zs.take 9)).length := by simp [bts]; omega
    obtain ⟨ad, rfl, hsrc⟩ := cells_src (h.below hB) 9 hcl
    refine ⟨_, _, run_copy_row (P := Tryz.prog) _ 23 23 3 5 w.heap.size 0 9 9 ad n cap #[.int .u8 0, .int .u8 0, .int .u8 0, .int .u8 0, .int .u8 0, .int .u8 0, .int .u8 0, .int .u8 0, .int .u8 0] 103 (bts (zs.take 9)) Tryz.underlying23 Tryz.size5 hg ?_ hsrc ?_ ?_, ?_, below_setRow hB (Nat.le_refl _) _, by simp [World.setRow]⟩
    · have e : (bts (zs.take 9)).length = min 9 zs.length := by simp [bts]
      rw [e, hl]
      show min 9 zs.length = min zs.length 9
      omega
    · simp [bts]; omega
    · intro v hv
      obtain ⟨z, _, rfl⟩ := List.mem_map.1 hv
      rfl
    · rw [← hp]
      simpa [splice] using setRow_heap _ w.heap.size _ _ _ _ hg

theorem nine_B {zs : List Int} (h : IsB zs) (i : Nat) : 0 ≤ zs.getD i 0 ∧ zs.getD i 0 ≤ 255 := h i

set_option linter.unusedSimpArgs false in
set_option maxRecDepth 10000 in
set_option maxHeartbeats 8000000 in
theorem firstRec_any (a : Option Addr) (n cap : Nat) (zs : List Int) (w : World) (h : CellsAt w a n (bts zs)) (hb : IsB zs) (hn : n ≤ 1048576) (hcap : n ≤ cap) :
    Calls Tryz.prog 49 #[.slice a n cap] w fun e w' => e = .returned (.tuple #[recV (Ch.firstV zs).1, .int .i64 (Ch.firstV zs).2]) ∧ Below w.heap.size w w' := by
  have HL := h.len
  have b0 : Below w.heap.size w (w.alloc (.cells #[.int .i64 0, .int .i64 0, .int .i64 0, .bool false, .int .i64 0, .bool false, .int .i64 0] 54)) := (Below.refl _ _).alloc (Nat.le_refl _) _
  obtain ⟨c1, w1, hrun, HG, b1, z1⟩ := copy9 (w.alloc (.cells #[.int .i64 0, .int .i64 0, .int .i64 0, .bool false, .int .i64 0, .bool false, .int .i64 0] 54)) a n cap zs (h.below b0)
  simp only [World.size_alloc] at hrun HG z1
  have x0 : w1.cell? ⟨w.heap.size + 1, 0, none⟩ = some (.int .u8 (zs.getD 0 0)) := cell_of_row _ _ _ _ _ _ HG
  have x1 : w1.cell? ⟨w.heap.size + 1, 1, none⟩ = some (.int .u8 (zs.getD 1 0)) := cell_of_row _ _ _ _ _ _ HG
  have x2 : w1.cell? ⟨w.heap.size + 1, 2, none⟩ = some (.int .u8 (zs.getD 2 0)) := cell_of_row _ _ _ _ _ _ HG
  have x3 : w1.cell? ⟨w.heap.size + 1, 3, none⟩ = some (.int .u8 (zs.getD 3 0)) := cell_of_row _ _ _ _ _ _ HG
  have x4 : w1.cell? ⟨w.heap.size + 1, 4, none⟩ = some (.int .u8 (zs.getD 4 0)) := cell_of_row _ _ _ _ _ _ HG
  have x5 : w1.cell? ⟨w.heap.size + 1, 5, none⟩ = some (.int .u8 (zs.getD 5 0)) := cell_of_row _ _ _ _ _ _ HG
  have x6 : w1.cell? ⟨w.heap.size + 1, 6, none⟩ = some (.int .u8 (zs.getD 6 0)) := cell_of_row _ _ _ _ _ _ HG
  have x7 : w1.cell? ⟨w.heap.size + 1, 7, none⟩ = some (.int .u8 (zs.getD 7 0)) := cell_of_row _ _ _ _ _ _ HG
  have x8 : w1.cell? ⟨w.heap.size + 1, 8, none⟩ = some (.int .u8 (zs.getD 8 0)) := cell_of_row _ _ _ _ _ _ HG
  have y0 := box_cell b1 0
  have y1 := box_cell b1 1
  have y2 := box_cell b1 2
  have y3 := box_cell b1 3
  have y4 := box_cell b1 4
  have y5 := box_cell b1 5
  have y6 := box_cell b1 6
  simp at y0 y1 y2 y3 y4 y5 y6
  clear HG b0 y0 y1 y2 y3 y4 y5 y6
  obtain ⟨p0, q0⟩ := hb 0
  obtain ⟨p1, q1⟩ := hb 1
  obtain ⟨p2, q2⟩ := hb 2
  obtain ⟨p3, q3⟩ := hb 3
  obtain ⟨p4, q4⟩ := hb 4
  obtain ⟨p5, q5⟩ := hb 5
  obtain ⟨p6, q6⟩ := hb 6
  obtain ⟨p7, q7⟩ := hb 7
  obtain ⟨p8, q8⟩ := hb 8
  have HU : Hid (Ch.unp [zs.getD 0 0, zs.getD 1 0, zs.getD 2 0, zs.getD 3 0, zs.getD 4 0, zs.getD 5 0, zs.getD 6 0, zs.getD 7 0, zs.getD 8 0] = Ch.unp zs) := Ch.unp_nine zs
  generalize zs.getD 0 0 = d0 at *
  generalize zs.getD 1 0 = d1 at *
  generalize zs.getD 2 0 = d2 at *
  generalize zs.getD 3 0 = d3 at *
  generalize zs.getD 4 0 = d4 at *
  generalize zs.getD 5 0 = d5 at *
  generalize zs.getD 6 0 = d6 at *
  generalize zs.getD 7 0 = d7 at *
  generalize zs.getD 8 0 = d8 at *
  go_enter Tryz.func49, Tryz.ntmps49
  go_wp2_with fail
  refine (unpack_any d0 d1 d2 d3 d4 d5 d6 d7 d8 _ p0 q0 p1 q1 p2 q2 p3 q3 p4 q4 p5 q5 p6 q6 p7 q7 p8 q8).mono ?_
  rw [HU.out]
  rintro e w2 ⟨rfl, b2⟩
  have bA := b1.trans (b2.mono b1.size)
  have z2 := b2.size
  clear x0 x1 x2 x3 x4 x5 x6 x7 x8 p0 q0 p1 q1 p2 q2 p3 q3 p4 q4 p5 q5 p6 q6 p7 q7 p8 q8 hrun b1 b2 HU
  obtain ⟨r, hr⟩ : ∃ r, r = Ch.unp zs := ⟨_, rfl⟩
  rw [← hr]
  obtain ⟨kd, tx, ky, hd, ol, hs, nw⟩ := r
  have HR : Hid (⟨kd, tx, ky, hd, ol, hs, nw⟩ = Ch.unp zs) := hr
  clear hr
  simp only [recV]
  by_cases hf : Ch.Rec.fault ⟨kd, tx, ky, hd, ol, hs, nw⟩ = 0
  · have hlen := Ch.Rec.len_bd ⟨kd, tx, ky, hd, ol, hs, nw⟩
    have hby := isB_of (Ch.Rec.all_bytes (Ch.Rec.fit hf))
    go_wp2_with fail
    refine (implPackRec_ok kd tx ky hd ol hs nw _ hf).mono ?_
    rintro e w3 ⟨g, cp, rfl, own, b3⟩
    obtain ⟨r0, r1, r2, r3, r4, r5, r6⟩ := box7 b3
    have b3 := below_box b3
    have bB := bA.trans (b3.mono bA.size)
    have z3 := lt_of_cell r0
    have h3 := h.below ((below_box bB))
    have hpf := hasPrefix_any a (some ⟨g, 0, none⟩) n (Ch.Rec.len ⟨kd, tx, ky, hd, ol, hs, nw⟩) cap cp zs (Ch.Rec.bytes ⟨kd, tx, ky, hd, ol, hs, nw⟩) (w3.alloc (.cells #[.int .i64 0, .slice (some ⟨g, 0, none⟩) (Ch.Rec.len ⟨kd, tx, ky, hd, ol, hs, nw⟩) cp] 106)) (h3.below ((Below.refl _ _).alloc (Nat.le_refl _) _)) (by simpa using owns_cells (own.alloc _)) hb hby (by omega) (by omega) (by omega) hcap
    obtain ⟨y0, y1, y2, y3, y4, y5, y6⟩ := box7 bB
    have f0 := bB.frozen (p := ⟨w.heap.size, 0, none⟩) (by simp)
    have f1 := bB.frozen (p := ⟨w.heap.size, 1, none⟩) (by simp)
    have f2 := bB.frozen (p := ⟨w.heap.size, 2, none⟩) (by simp)
    have f3 := bB.frozen (p := ⟨w.heap.size, 3, none⟩) (by simp)
    have f4 := bB.frozen (p := ⟨w.heap.size, 4, none⟩) (by simp)
    have f5 := bB.frozen (p := ⟨w.heap.size, 5, none⟩) (by simp)
    have f6 := bB.frozen (p := ⟨w.heap.size, 6, none⟩) (by simp)
    simp [go_sem] at f0 f1 f2 f3 f4 f5 f6
    have zA := lt_of_cell y0
    have bE := below_box bB
    clear bA b3 own h3 bB hby h
    by_cases hp : Ch.Rec.bytes ⟨kd, tx, ky, hd, ol, hs, nw⟩ <+: zs
    · have HV : Hid (Ch.firstV zs = (⟨kd, tx, ky, hd, ol, hs, nw⟩, Ch.Rec.len ⟨kd, tx, ky, hd, ol, hs, nw⟩)) := by
        have e := HR.out
        have := Ch.firstV_some (zs := zs) (by rw [← e]; exact hf) (by rw [← e]; exact hp)
        rw [← e] at this
        exact this
      rw [decide_eq_true hp] at hpf
      clear hp HR hf
      generalize Ch.Rec.len ⟨kd, tx, ky, hd, ol, hs, nw⟩ = len at *
      generalize Ch.Rec.bytes ⟨kd, tx, ky, hd, ol, hs, nw⟩ = bys at *
      go_wp2_with (go_at_call 70; refine hpf.mono ?_; clear hpf; rintro e w4 ⟨rfl, hw4⟩; subst w4)
      go_region
      all_goals
        go_wp2_with fail
        rw [HV.out]
        refine bodyPost_ret (v := .tuple #[.agg #[.int .i64 kd, .int .i64 tx, .int .i64 ky, .bool hd, .int .i64 ol, .bool hs, .int .i64 nw], .int .i64 len]) (by simp [results, Tryz.results49, go_sem, zA, y0, y1, y2, y3, y4, y5, y6]) rfl ⟨rfl, ?_⟩
        repeat (first | with_reducible exact bE | with_reducible refine Below.drew ?_ | with_reducible refine Below.alloc ?_ (by first | omega | (simp; done) | (simp; omega)) _ | with_reducible refine Below.setCell ?_ (by simp) _)
    · have HV : Hid (Ch.firstV zs = (Ch.Rec.zero, 0)) := by
        have e := HR.out
        exact Ch.firstV_none (zs := zs) (by rw [← e]; exact fun hh => hp hh.2)
      rw [decide_eq_false hp] at hpf
      clear hp HR hf
      generalize Ch.Rec.len ⟨kd, tx, ky, hd, ol, hs, nw⟩ = len at *
      generalize Ch.Rec.bytes ⟨kd, tx, ky, hd, ol, hs, nw⟩ = bys at *
      go_wp2_with (go_at_call 70; refine hpf.mono ?_; clear hpf; rintro e w4 ⟨rfl, hw4⟩; subst w4)
      rw [HV.out]
      refine bodyPost_ret (v := .tuple #[.agg #[.int .i64 0, .int .i64 0, .int .i64 0, .bool false, .int .i64 0, .bool false, .int .i64 0], .int .i64 0]) (by simp [results, Tryz.results49, go_sem, zA, y0, y1, y2, y3, y4, y5, y6]) rfl ⟨rfl, ?_⟩
      repeat (first | with_reducible exact bE | with_reducible refine Below.drew ?_ | with_reducible refine Below.alloc ?_ (by first | omega | (simp; done) | (simp; omega)) _ | with_reducible refine Below.setCell ?_ (by simp) _)
  · have HV : Hid (Ch.firstV zs = (Ch.Rec.zero, 0)) := by
      have e := HR.out
      exact Ch.firstV_none (zs := zs) (by rw [← e]; exact fun hh => hf hh.1)
    have hc : (Ch.Rec.fault ⟨kd, tx, ky, hd, ol, hs, nw⟩ != 0) = true := by simpa using hf
    go_wp2_with fail
    refine (implPackRec_no kd tx ky hd ol hs nw _ _ rfl hc).mono ?_
    generalize Ch.Rec.fault ⟨kd, tx, ky, hd, ol, hs, nw⟩ = fc at *
    rintro e w3 ⟨rfl, b3⟩
    have b3 := below_box b3
    have bB := bA.trans (b3.mono bA.size)
    obtain ⟨y0, y1, y2, y3, y4, y5, y6⟩ := box7 bB
    have f0 := bB.frozen (p := ⟨w.heap.size, 0, none⟩) (by simp)
    have f1 := bB.frozen (p := ⟨w.heap.size, 1, none⟩) (by simp)
    have f2 := bB.frozen (p := ⟨w.heap.size, 2, none⟩) (by simp)
    have f3 := bB.frozen (p := ⟨w.heap.size, 3, none⟩) (by simp)
    have f4 := bB.frozen (p := ⟨w.heap.size, 4, none⟩) (by simp)
    have f5 := bB.frozen (p := ⟨w.heap.size, 5, none⟩) (by simp)
    have f6 := bB.frozen (p := ⟨w.heap.size, 6, none⟩) (by simp)
    simp [go_sem] at f0 f1 f2 f3 f4 f5 f6
    have zA := lt_of_cell y0
    have bE := below_box bB
    clear bA b3 bB h hf HR
    go_wp2_with fail
    rw [HV.out]
    refine bodyPost_ret (v := .tuple #[.agg #[.int .i64 0, .int .i64 0, .int .i64 0, .bool false, .int .i64 0, .bool false, .int .i64 0], .int .i64 0]) (by simp [results, Tryz.results49, go_sem, zA, y0, y1, y2, y3, y4, y5, y6]) rfl ⟨rfl, ?_⟩
    repeat (first | with_reducible exact bE | with_reducible refine Below.drew ?_ | with_reducible refine Below.alloc ?_ (by first | omega | (simp; done) | (simp; omega)) _ | with_reducible refine Below.setCell ?_ (by simp) _)
end Go.Proofs.YtoijjjckdggglaaGreat


/- Walks of the first record of bytes: the model's. -/
namespace Go.Proofs.YtoijjjckdggglaaGreat
open Go.RowKit

theorem row7 {W : World} {g : Nat} {t : TypeId} {u0 u1 u2 u3 u4 u5 u6 : Value} (h : W.heap[g]? = some (.cells #[u0, u1, u2, u3, u4, u5, u6] t (0, 0))) :
    W.cell? ⟨g, 0, none⟩ = some u0 ∧ W.cell? ⟨g, 1, none⟩ = some u1 ∧ W.cell? ⟨g, 2, none⟩ = some u2 ∧ W.cell? ⟨g, 3, none⟩ = some u3 ∧ W.cell? ⟨g, 4, none⟩ = some u4 ∧ W.cell? ⟨g, 5, none⟩ = some u5 ∧ W.cell? ⟨g, 6, none⟩ = some u6 :=
  ⟨cell_of_row _ _ _ _ _ _ h, cell_of_row _ _ _ _ _ _ h, cell_of_row _ _ _ _ _ _ h, cell_of_row _ _ _ _ _ _ h, cell_of_row _ _ _ _ _ _ h, cell_of_row _ _ _ _ _ _ h, cell_of_row _ _ _ _ _ _ h⟩
theorem frz7 {W : World} {g : Nat} {t : TypeId} {cs : Array Value} (h : W.heap[g]? = some (.cells cs t (0, 0))) :
    W.frozen? ⟨g, 0, none⟩ = false ∧ W.frozen? ⟨g, 1, none⟩ = false ∧ W.frozen? ⟨g, 2, none⟩ = false ∧ W.frozen? ⟨g, 3, none⟩ = false ∧ W.frozen? ⟨g, 4, none⟩ = false ∧ W.frozen? ⟨g, 5, none⟩ = false ∧ W.frozen? ⟨g, 6, none⟩ = false :=
  ⟨Joins.unfrozen_of_block h _, Joins.unfrozen_of_block h _, Joins.unfrozen_of_block h _, Joins.unfrozen_of_block h _, Joins.unfrozen_of_block h _, Joins.unfrozen_of_block h _, Joins.unfrozen_of_block h _⟩
theorem set7_row {W : World} {g : Nat} {t : TypeId} {u0 u1 u2 u3 u4 u5 u6 : Value} (h : W.heap[g]? = some (.cells #[u0, u1, u2, u3, u4, u5, u6] t (0, 0))) (v0 v1 v2 v3 v4 v5 v6 : Value) :
    (((((((W.setCell ⟨g, 0, none⟩ v0).setCell ⟨g, 1, none⟩ v1).setCell ⟨g, 2, none⟩ v2).setCell ⟨g, 3, none⟩ v3).setCell ⟨g, 4, none⟩ v4).setCell ⟨g, 5, none⟩ v5).setCell ⟨g, 6, none⟩ v6).heap[g]? = some (.cells #[v0, v1, v2, v3, v4, v5, v6] t (0, 0)) := by
  have h0 := Joins.block_setCell (i := 0) h v0
  simp only [List.setIfInBounds_toArray, List.set_cons_zero] at h0
  have h1 := Joins.block_setCell (i := 1) h0 v1
  simp only [List.setIfInBounds_toArray, List.set_cons_zero, List.set_cons_succ] at h1
  have h2 := Joins.block_setCell (i := 2) h1 v2
  simp only [List.setIfInBounds_toArray, List.set_cons_zero, List.set_cons_succ] at h2
  have h3 := Joins.block_setCell (i := 3) h2 v3
  simp only [List.setIfInBounds_toArray, List.set_cons_zero, List.set_cons_succ] at h3
  have h4 := Joins.block_setCell (i := 4) h3 v4
  simp only [List.setIfInBounds_toArray, List.set_cons_zero, List.set_cons_succ] at h4
  have h5 := Joins.block_setCell (i := 5) h4 v5
  simp only [List.setIfInBounds_toArray, List.set_cons_zero, List.set_cons_succ] at h5
  have h6 := Joins.block_setCell (i := 6) h5 v6
  simp only [List.setIfInBounds_toArray, List.set_cons_zero, List.set_cons_succ] at h6
  exact h6
theorem below_set7 {B : Nat} {A W : World} {g : Nat} (h : Below B A W) (hg : B ≤ g) (v0 v1 v2 v3 v4 v5 v6 : Value) :
    Below B A (((((((W.setCell ⟨g, 0, none⟩ v0).setCell ⟨g, 1, none⟩ v1).setCell ⟨g, 2, none⟩ v2).setCell ⟨g, 3, none⟩ v3).setCell ⟨g, 4, none⟩ v4).setCell ⟨g, 5, none⟩ v5).setCell ⟨g, 6, none⟩ v6) :=
  ((((((h.setCell (p := ⟨g, 0, none⟩) hg v0).setCell (p := ⟨g, 1, none⟩) hg v1).setCell (p := ⟨g, 2, none⟩) hg v2).setCell (p := ⟨g, 3, none⟩) hg v3).setCell (p := ⟨g, 4, none⟩) hg v4).setCell (p := ⟨g, 5, none⟩) hg v5).setCell (p := ⟨g, 6, none⟩) hg v6

theorem take_abs (a : Option Addr) (n cap k : Nat) (zs : List Int) (w : World) (h : CellsAt w a n (bts zs)) (hb : IsB zs) (hn : n ≤ 1099511627776) (hk : k + 1 < n) :
    Calls Tryz.prog 39 #[.slice a n cap, .int .i64 k] w fun e w' => e = .returned (.int .i64 (zs.getD k 0 * 256 + zs.getD (k + 1) 0)) ∧ w'.heap = w.heap ∧ Below w.heap.size w w' := by
  refine (take_any a n cap k zs w h hb hn hk).mono ?_
  rintro e w' ⟨he, q, rfl⟩
  exact ⟨he, by simp, below_drewN (Below.refl _ _) q⟩

set_option maxHeartbeats 400000 in
theorem l2One_short (a : Option Addr) (n cap : Nat) (zs : List Int) (w : World) (h : CellsAt w a n (bts zs)) (h5 : n < 5) :
    Calls Tryz.prog 26 #[.slice a n cap] w fun e w' => e = .returned (.tuple #[recV (Ch.firstV zs).1, .int .i64 (Ch.firstV zs).2]) ∧ Below w.heap.size w w' := by
  have HL := h.len
  have HV : Hid (Ch.firstV zs = (Ch.Rec.zero, 0)) := Ch.firstV_none (fun hh => by
    have e1 := hh.2.length_le
    have e2 := Ch.Rec.bytes_len (Ch.unp zs)
    have e3 := (Ch.Rec.len_bd (Ch.unp zs)).1
    have e4 := HL.out
    omega)
  have i5 : (n : Int) < 5 := by omega
  go_enter Tryz.func26, Tryz.ntmps26
  go_wp2_with fail
  rw [HV.out]
  refine bodyPost_ret (v := .tuple #[.agg #[.int .i64 0, .int .i64 0, .int .i64 0, .bool false, .int .i64 0, .bool false, .int .i64 0], .int .i64 0]) (by simp [results, Tryz.results26, go_sem]) rfl ⟨rfl, ?_⟩
  exact (Below.refl _ _).alloc (Nat.le_refl _) _

set_option linter.unusedSimpArgs false in
set_option maxRecDepth 10000 in
set_option maxHeartbeats 8000000 in
theorem l2One_plain (b off n cap : Nat) (zs : List Int) (w : World) (h : CellsAt w (some ⟨b, off, none⟩) n (bts zs)) (hb : IsB zs) (hn : n ≤ 1048576) (hcap : n ≤ cap) (h5 : 5 ≤ n) (hset : Ch.sets (zs.getD 0 0) = false) :
    Calls Tryz.prog 26 #[.slice (some ⟨b, off, none⟩) n cap] w fun e w' => e = .returned (.tuple #[recV (Ch.firstV zs).1, .int .i64 (Ch.firstV zs).2]) ∧ Below w.heap.size w w' := by
  have HL := h.len
  have h5' : ¬ (n : Int) < 5 := by omega
  have i0 : (0 : Int) < (n : Int) := by omega
  have i0n : 0 < n := by omega
  obtain ⟨b', off', hbo, hc0⟩ := h.at (show 0 < n by omega)
  simp only [Option.some.injEq, Addr.mk.injEq, and_true] at hbo
  obtain ⟨rfl, rfl⟩ := hbo
  rw [Nat.add_zero] at hc0
  obtain ⟨p0, q0⟩ := hb 0
  obtain ⟨p1, q1⟩ := hb 1
  obtain ⟨p2, q2⟩ := hb 2
  have tk1 := fun (W : World) (hW : Below (w.heap.size + 1) (w.alloc (.cells #[.int .i64 0, .int .i64 0, .int .i64 0, .bool false, .int .i64 0, .bool false, .int .i64 0] 54)) W) => take_abs (some ⟨b, off, none⟩) n cap 1 zs W (h.below (below_boxS hW)) hb (by omega) (by omega)
  simp only [Nat.reduceAdd, Int.reduceNeg, Int.cast_ofNat_Int] at tk1
  have HU : Hid (Ch.unp zs = ⟨zs.getD 0 0, zs.getD 1 0 * 256 + zs.getD 2 0, 0, false, 0, false, 0⟩) := by show _ = _; unfold Ch.unp; rw [hset]; rfl
  generalize zs.getD 0 0 = d0 at *
  generalize zs.getD 1 0 = d1 at *
  generalize zs.getD 2 0 = d2 at *
  have hw0 : IntKind.i64.wrap d0 = d0 := IntWalk.i64_in d0 ⟨by omega, by omega⟩
  go_enter Tryz.func26, Tryz.ntmps26
  go_upto_region 3 with fail
  go_cut [4] (fun s wx => s = .pointer (some ⟨w.heap.size + 1, 0, none⟩) ∧ wx.heap[w.heap.size + 1]? = some (.cells #[.int .i64 d0, .int .i64 (d1 * 256 + d2), .int .i64 0, .bool false, .int .i64 0, .bool false, .int .i64 0] 54 (0, 0)) ∧ Below (w.heap.size + 1) (w.alloc (.cells #[.int .i64 0, .int .i64 0, .int .i64 0, .bool false, .int .i64 0, .bool false, .int .i64 0] 54)) wx ∧ wx.heap.size = w.heap.size + 2)
  case first =>
    have HS : Hid (∀ W', Below (w.heap.size + 1) (w.alloc (.cells #[.int .i64 0, .int .i64 0, .int .i64 0, .bool false, .int .i64 0, .bool false, .int .i64 0] 54)) W' → W'.cell? ⟨b, off, none⟩ = some (.int .u8 d0) ∧ Below (w.heap.size + 1) (w.alloc (.cells #[.int .i64 0, .int .i64 0, .int .i64 0, .bool false, .int .i64 0, .bool false, .int .i64 0] 54)) W') := fun W' hb => ⟨(keep_cell (below_boxS hb) hc0), hb⟩
    refine wp_region_noPanic ?_
    refine wp_region_held_drew (S := fun W' => W'.cell? ⟨b, off, none⟩ = some (.int .u8 d0) ∧ Below (w.heap.size + 1) (w.alloc (.cells #[.int .i64 0, .int .i64 0, .int .i64 0, .bool false, .int .i64 0, .bool false, .int .i64 0] 54)) W') (by kernel_rfl) (HS.out _ (Below.refl _ _).drew) (fun hH => ?_)
    refine hTake (i := 0) (v := ?_) rfl (by kernel_rfl) (by kernel_rfl) (by kernel_rfl) (by rfl) ?_ hH ?_
    rotate_left
    · intro W hW; (try dsimp only at hW); go_simp <;> with_reducible rfl
    simp only [Act.put, List.setIfInBounds_toArray, List.set_cons_zero, List.set_cons_succ]
    refine hTake (i := 1) (v := ?_) rfl (by kernel_rfl) (by kernel_rfl) (by kernel_rfl) (by rfl) ?_ hH ?_
    rotate_left
    · intro W hW; (try dsimp only at hW); go_simp <;> with_reducible rfl
    simp only [Act.put, List.setIfInBounds_toArray, List.set_cons_zero, List.set_cons_succ]
    refine hTake (i := 2) (v := ?_) rfl (by kernel_rfl) (by kernel_rfl) (by kernel_rfl) (by rfl) ?_ hH ?_
    rotate_left
    · intro W hW; (try dsimp only at hW); go_simp <;> with_reducible rfl
    simp only [Act.put, List.setIfInBounds_toArray, List.set_cons_zero, List.set_cons_succ]
    refine hTake (i := 3) (v := ?_) rfl (by kernel_rfl) (by kernel_rfl) (by kernel_rfl) (by rfl) ?_ hH ?_
    rotate_left
    · intro W hW; (try dsimp only at hW); go_simp <;> with_reducible rfl
    simp only [Act.put, List.setIfInBounds_toArray, List.set_cons_zero, List.set_cons_succ]
    refine hTake (i := 4) (v := ?_) rfl (by kernel_rfl) (by kernel_rfl) (by kernel_rfl) (by rfl) ?_ hH ?_
    rotate_left
    · intro W hW; (try dsimp only at hW); go_simp <;> with_reducible rfl
    simp only [Act.put, List.setIfInBounds_toArray, List.set_cons_zero, List.set_cons_succ]
    refine wpAnyH_ready (rs := [5, 7]) (by kernel_rfl) (by simp) ?_
    refine AllReadyH.cons rfl (fun K hK => ?_) (AllReadyH.cons rfl (fun K hK => ?_) AllReadyH.nil)
    focus
      go_simp
      refine (tk1 _ hH.2).mono ?_
      rintro e w1 ⟨rfl, hh1, bq⟩
      have bq := hH.2.trans (bq.mono (by simp))
      go_wp2_with fail
      refine hK.out _ _ ?_ (fun hH => ?_)
      · exact HS.out _ bq
      clear hK K
      refine hTake (i := 6) (v := ?_) rfl (by kernel_rfl) (by kernel_rfl) (by kernel_rfl) (by rfl) ?_ hH ?_
      rotate_left
      · intro W hW; (try dsimp only at hW); go_simp <;> with_reducible rfl
      simp only [Act.put, List.setIfInBounds_toArray, List.set_cons_zero, List.set_cons_succ]
      refine wpAnyH_ready (rs := [7]) (by kernel_rfl) (by simp) ?_
      refine AllReadyH.cons rfl (fun K hK => ?_) AllReadyH.nil
      go_simp
      refine hK.out _ _ ?_ (fun hH => ?_)
      · exact HS.out _ (hH.2.alloc (by first | (simp; done) | (have := hH.2.size; simp at this; omega)) _)
      clear hK K
      have zq := bq.size
      simp at zq
      have hsq : w1.heap.size = w.heap.size + 1 := by rw [hh1]; simp
      refine wpAnyH_ready (rs := [8]) (by kernel_rfl) (by simp) ?_
      refine AllReadyH.cons rfl (fun K hK => ?_) AllReadyH.nil
      go_simp
      refine hK.out _ _ ?_ (fun hH => ?_)
      · exact HS.out _ (bq.alloc zq _)
      clear hK K
      refine wpAnyH_done (by kernel_rfl) ?_ _
      refine NoPanic.normal ?_
      go_wp2_with fail
      go_meet
      exact ⟨rfl, heap_new' hsq.symm, bq.alloc zq _, by simp [hsq]⟩
    rotate_left
    focus
      go_simp
      refine hK.out _ _ ?_ (fun hH => ?_)
      · exact HS.out _ (hH.2.alloc (by first | (simp; done) | (have := hH.2.size; simp at this; omega)) _)
      clear hK K
      refine wpAnyH_ready (rs := [5]) (by kernel_rfl) (by simp) ?_
      refine AllReadyH.cons rfl (fun K hK => ?_) AllReadyH.nil
      go_simp
      refine (tk1 _ hH.2).mono ?_
      rintro e w1 ⟨rfl, hh1, bq⟩
      have bq := hH.2.trans (bq.mono (by simp))
      go_wp2_with fail
      refine hK.out _ _ ?_ (fun hH => ?_)
      · exact HS.out _ bq
      clear hK K
      refine hTake (i := 6) (v := ?_) rfl (by kernel_rfl) (by kernel_rfl) (by kernel_rfl) (by rfl) ?_ hH ?_
      rotate_left
      · intro W hW; (try dsimp only at hW); go_simp <;> with_reducible rfl
      simp only [Act.put, List.setIfInBounds_toArray, List.set_cons_zero, List.set_cons_succ]
      have hR : w1.heap[w.heap.size + 1]? = some (.cells #[.int .i64 0, .int .i64 0, .int .i64 0, .bool false, .int .i64 0, .bool false, .int .i64 0] 54 (0, 0)) := by rw [hh1]; exact heap_new' (by simp)
      have hsq : w1.heap.size = w.heap.size + 2 := by rw [hh1]; simp
      obtain ⟨x0, x1, x2, x3, x4, x5, x6⟩ := row7 hR
      obtain ⟨f0, f1, f2, f3, f4, f5, f6⟩ := frz7 hR
      refine wpAnyH_ready (rs := [8]) (by kernel_rfl) (by simp) ?_
      refine AllReadyH.cons rfl (fun K hK => ?_) AllReadyH.nil
      go_simp
      refine hK.out _ _ ?_ (fun hH => ?_)
      · exact HS.out _ (below_set7 bq (by omega) _ _ _ _ _ _ _)
      clear hK K
      clear x0 x1 x2 x3 x4 x5 x6 f0 f1 f2 f3 f4 f5 f6
      refine wpAnyH_done (by kernel_rfl) ?_ _
      refine NoPanic.normal ?_
      go_wp2_with fail
      go_meet
      exact ⟨rfl, set7_row hR _ _ _ _ _ _ _, below_set7 bq (by omega) _ _ _ _ _ _ _, by simp [hsq]⟩
    rotate_left
  case rest =>
  obtain ⟨rfl, hR, hB, hsz⟩ := hcut
  clear tk1 hc0
  obtain ⟨x0, x1, x2, x3, x4, x5, x6⟩ := row7 hR
  have j1 : (5 : Int) ≤ (n : Int) := by omega
  have j2 : (5 : Int) ≤ (cap : Int) := by omega
  have j3 : 5 ≤ cap := by omega
  have HLn : Hid (Ch.Rec.len ⟨d0, d1 * 256 + d2, 0, false, 0, false, 0⟩ = 5) := by show _ = _; simp [Ch.Rec.len, hset]
  go_upto_region 14 with (go_at_call 40; refine (l2Sets_any _ _).mono ?_; rintro e w1 ⟨rfl, hw1⟩; subst w1)
  by_cases hf : Ch.Rec.fault ⟨d0, d1 * 256 + d2, 0, false, 0, false, 0⟩ = 0
  · have HF : Hid (Ch.Rec.fault ⟨d0, d1 * 256 + d2, 0, false, 0, false, 0⟩ = 0) := hf
    have fit := Ch.Rec.fit hf
    have E0 := nums_eq (isB_of (Ch.Rec.all_bytes fit)) (isB_take hb 5)
    have HP : Hid (decide (Ch.Rec.bytes ⟨d0, d1 * 256 + d2, 0, false, 0, false, 0⟩ = zs.take 5) = decide (Ch.Rec.bytes ⟨d0, d1 * 256 + d2, 0, false, 0, false, 0⟩ <+: zs)) := by
      show _ = _
      rw [← prefix_iff, Ch.Rec.bytes_len, HLn.out]
      by_cases e : zs.take 5 = Ch.Rec.bytes ⟨d0, d1 * 256 + d2, 0, false, 0, false, 0⟩
      · simp [e]
      · simp [e, Ne.symm e]
    clear hf
    by_cases hp : Ch.Rec.bytes ⟨d0, d1 * 256 + d2, 0, false, 0, false, 0⟩ <+: zs
    · rw [HP.out, decide_eq_true hp] at E0
      have HV : Hid (Ch.firstV zs = (⟨d0, d1 * 256 + d2, 0, false, 0, false, 0⟩, 5)) := by
        have := Ch.firstV_some (zs := zs) (by rw [HU.out]; exact HF.out) (by rw [HU.out]; exact hp)
        rw [HU.out, HLn.out] at this
        exact this
      clear hp HP
      have HS : Hid (∀ W', Below wc.heap.size wc W' → W'.cell? ⟨w.heap.size + 1, 0, none⟩ = some (.int .i64 (d0)) ∧ W'.cell? ⟨w.heap.size + 1, 1, none⟩ = some (.int .i64 (d1 * 256 + d2)) ∧ W'.cell? ⟨w.heap.size + 1, 2, none⟩ = some (.int .i64 (0)) ∧ W'.cell? ⟨w.heap.size + 1, 3, none⟩ = some (.bool (false)) ∧ W'.cell? ⟨w.heap.size + 1, 4, none⟩ = some (.int .i64 (0)) ∧ W'.cell? ⟨w.heap.size + 1, 5, none⟩ = some (.bool (false)) ∧ W'.cell? ⟨w.heap.size + 1, 6, none⟩ = some (.int .i64 (0)) ∧ (convert 23 9 (.slice (some ⟨b, off, none⟩) 5 cap)).run Tryz.prog W' = .ok (.string (strOfNums (zs.take 5))) W' ∧ Below wc.heap.size wc W') := fun W' hb' => ⟨keep_cell hb' x0, keep_cell hb' x1, keep_cell hb' x2, keep_cell hb' x3, keep_cell hb' x4, keep_cell hb' x5, keep_cell hb' x6, conv_any ((h.take (m := 5) (by omega)).below ((below_boxS hB).trans (hb'.mono (below_boxS hB).size))) cap, hb'⟩
      refine wp_region_noPanic ?_
      refine wp_region_held_drew (S := fun W' => W'.cell? ⟨w.heap.size + 1, 0, none⟩ = some (.int .i64 (d0)) ∧ W'.cell? ⟨w.heap.size + 1, 1, none⟩ = some (.int .i64 (d1 * 256 + d2)) ∧ W'.cell? ⟨w.heap.size + 1, 2, none⟩ = some (.int .i64 (0)) ∧ W'.cell? ⟨w.heap.size + 1, 3, none⟩ = some (.bool (false)) ∧ W'.cell? ⟨w.heap.size + 1, 4, none⟩ = some (.int .i64 (0)) ∧ W'.cell? ⟨w.heap.size + 1, 5, none⟩ = some (.bool (false)) ∧ W'.cell? ⟨w.heap.size + 1, 6, none⟩ = some (.int .i64 (0)) ∧ (convert 23 9 (.slice (some ⟨b, off, none⟩) 5 cap)).run Tryz.prog W' = .ok (.string (strOfNums (zs.take 5))) W' ∧ Below wc.heap.size wc W') (by kernel_rfl) (HS.out _ (Below.refl _ _).drew) (fun hH => ?_)
      refine hTake (i := 0) (v := ?_) rfl (by kernel_rfl) (by kernel_rfl) (by kernel_rfl) (by rfl) ?_ hH ?_
      rotate_left
      · intro W hW; (try dsimp only at hW); go_simp <;> with_reducible rfl
      simp only [Act.put, List.setIfInBounds_toArray, List.set_cons_zero, List.set_cons_succ]
      refine wpAnyH_ready (rs := [1]) (by kernel_rfl) (by simp) ?_
      refine AllReadyH.cons rfl (fun K hK => ?_) AllReadyH.nil
      go_simp
      refine (specRec_any (d0) (d1 * 256 + d2) (0) (false) (0) (false) (0) _).mono ?_
      rintro e w1 ⟨rfl, b1⟩
      rw [HF.out]
      have b1 := hH.2.2.2.2.2.2.2.2.trans (b1.mono (by simp))
      go_wp2_with fail
      refine hK.out _ _ ?_ (fun hH => ?_)
      · exact HS.out _ b1
      clear hK K
      refine hTake (i := 2) (v := ?_) rfl (by kernel_rfl) (by kernel_rfl) (by kernel_rfl) (by rfl) ?_ hH ?_
      rotate_left
      · intro W hW; (try dsimp only at hW); go_simp <;> with_reducible rfl
      simp only [Act.put, List.setIfInBounds_toArray, List.set_cons_zero, List.set_cons_succ]
      refine hTake (i := 3) (v := ?_) rfl (by kernel_rfl) (by kernel_rfl) (by kernel_rfl) (by rfl) ?_ hH ?_
      rotate_left
      · intro W hW; (try dsimp only at hW); go_simp <;> with_reducible rfl
      simp only [Act.put, List.setIfInBounds_toArray, List.set_cons_zero, List.set_cons_succ]
      refine hTake (i := 4) (v := ?_) rfl (by kernel_rfl) (by kernel_rfl) (by kernel_rfl) (by rfl) ?_ hH ?_
      rotate_left
      · intro W hW; (try dsimp only at hW); go_simp <;> with_reducible rfl
      simp only [Act.put, List.setIfInBounds_toArray, List.set_cons_zero, List.set_cons_succ]
      refine hTake (i := 7) (v := ?_) rfl (by kernel_rfl) (by kernel_rfl) (by kernel_rfl) (by rfl) ?_ hH ?_
      rotate_left
      · intro W hW; (try dsimp only at hW); go_simp <;> with_reducible rfl
      simp only [Act.put, List.setIfInBounds_toArray, List.set_cons_zero, List.set_cons_succ]
      refine hTake (i := 8) (v := ?_) rfl (by kernel_rfl) (by kernel_rfl) (by kernel_rfl) (by rfl) ?_ hH ?_
      rotate_left
      · intro W hW; (try dsimp only at hW); go_simp <;> with_reducible rfl
      simp only [Act.put, List.setIfInBounds_toArray, List.set_cons_zero, List.set_cons_succ]
      refine hTake (i := 9) (v := ?_) rfl (by kernel_rfl) (by kernel_rfl) (by kernel_rfl) (by rfl) ?_ hH ?_
      rotate_left
      · intro W hW; (try dsimp only at hW); go_simp <;> with_reducible rfl
      simp only [Act.put, List.setIfInBounds_toArray, List.set_cons_zero, List.set_cons_succ]
      refine hTake (i := 10) (v := ?_) rfl (by kernel_rfl) (by kernel_rfl) (by kernel_rfl) (by rfl) ?_ hH ?_
      rotate_left
      · intro W hW; (try dsimp only at hW); go_simp <;> with_reducible rfl
      simp only [Act.put, List.setIfInBounds_toArray, List.set_cons_zero, List.set_cons_succ]
      refine wpAnyH_ready (rs := [5]) (by kernel_rfl) (by simp) ?_
      refine AllReadyH.cons rfl (fun K hK => ?_) AllReadyH.nil
      go_simp
      refine (l2Pack_any (d0) (d1 * 256 + d2) (0) (false) (0) (false) (0) _ fit).mono ?_
      rw [HLn.out]
      rintro e w2 ⟨g, cp, rfl, own, b2⟩
      have b2 := hH.2.2.2.2.2.2.2.2.trans (b2.mono b1.size)
      have hcv := conv_any (w := w2) (a := some ⟨g, 0, none⟩) (n := 5) (zs := Ch.Rec.bytes ⟨d0, d1 * 256 + d2, 0, false, 0, false, 0⟩) (by simpa using owns_cells own) cp
      go_wp2_with fail
      refine hK.out _ _ ?_ (fun hH => ?_)
      · exact HS.out _ b2
      clear hK K
      refine wpAnyH_ready (rs := [6]) (by kernel_rfl) (by simp) ?_
      refine AllReadyH.cons rfl (fun K hK => ?_) AllReadyH.nil
      go_simp
      refine hK.out _ _ ?_ (fun hH => ?_)
      · exact hH
      clear hK K
      refine hTake (i := 11) (v := ?_) rfl (by kernel_rfl) (by kernel_rfl) (by kernel_rfl) (by rfl) ?_ hH ?_
      rotate_left
      · intro W hW; (try dsimp only at hW); go_simp <;> with_reducible rfl
      simp only [Act.put, List.setIfInBounds_toArray, List.set_cons_zero, List.set_cons_succ]
      refine hTake (i := 12) (v := ?_) rfl (by kernel_rfl) (by kernel_rfl) (by kernel_rfl) (by rfl) ?_ hH ?_
      rotate_left
      · intro W hW; (try dsimp only at hW); go_simp <;> with_reducible rfl
      simp only [Act.put, List.setIfInBounds_toArray, List.set_cons_zero, List.set_cons_succ]
      refine wpAnyH_done (by kernel_rfl) ?_ _
      refine NoPanic.normal ?_
      clear hcv E0 HLn
      have zc := b2.size
      have x0 := keep_cell b2 x0
      have x1 := keep_cell b2 x1
      have x2 := keep_cell b2 x2
      have x3 := keep_cell b2 x3
      have x4 := keep_cell b2 x4
      have x5 := keep_cell b2 x5
      have x6 := keep_cell b2 x6
      have bF := hB.trans (b2.mono (by omega))
      have bF' : Below (w.alloc (.cells #[.int .i64 0, .int .i64 0, .int .i64 0, .bool false, .int .i64 0, .bool false, .int .i64 0] 54)).heap.size (w.alloc (.cells #[.int .i64 0, .int .i64 0, .int .i64 0, .bool false, .int .i64 0, .bool false, .int .i64 0] 54)) w2 := by simpa using bF
      obtain ⟨y0, y1, y2, y3, y4, y5, y6⟩ := box7 bF'
      have g0 := bF.frozen (p := ⟨w.heap.size, 0, none⟩) (by simp)
      have g1 := bF.frozen (p := ⟨w.heap.size, 1, none⟩) (by simp)
      have g2 := bF.frozen (p := ⟨w.heap.size, 2, none⟩) (by simp)
      have g3 := bF.frozen (p := ⟨w.heap.size, 3, none⟩) (by simp)
      have g4 := bF.frozen (p := ⟨w.heap.size, 4, none⟩) (by simp)
      have g5 := bF.frozen (p := ⟨w.heap.size, 5, none⟩) (by simp)
      have g6 := bF.frozen (p := ⟨w.heap.size, 6, none⟩) (by simp)
      simp [go_sem] at g0 g1 g2 g3 g4 g5 g6
      have bE := below_boxS bF
      have zE := lt_of_cell y0
      clear bF bF'
      go_wp2_with fail
      rw [HV.out]
      refine bodyPost_ret (v := .tuple #[.agg #[.int .i64 (d0), .int .i64 (d1 * 256 + d2), .int .i64 (0), .bool (false), .int .i64 (0), .bool (false), .int .i64 (0)], .int .i64 5]) (by simp [results, Tryz.results26, go_sem, zE, y0, y1, y2, y3, y4, y5, y6]) rfl ⟨rfl, ?_⟩
      repeat (first | with_reducible exact bE | with_reducible refine Below.drew ?_ | with_reducible refine Below.alloc ?_ (by first | omega | (simp; done) | (simp; omega)) _ | with_reducible refine Below.setCell ?_ (by simp) _)
    · rw [HP.out, decide_eq_false hp] at E0
      have HV : Hid (Ch.firstV zs = (Ch.Rec.zero, 0)) := Ch.firstV_none (by rw [HU.out]; exact fun hh => hp hh.2)
      clear hp HP
      have HS : Hid (∀ W', Below wc.heap.size wc W' → W'.cell? ⟨w.heap.size + 1, 0, none⟩ = some (.int .i64 (d0)) ∧ W'.cell? ⟨w.heap.size + 1, 1, none⟩ = some (.int .i64 (d1 * 256 + d2)) ∧ W'.cell? ⟨w.heap.size + 1, 2, none⟩ = some (.int .i64 (0)) ∧ W'.cell? ⟨w.heap.size + 1, 3, none⟩ = some (.bool (false)) ∧ W'.cell? ⟨w.heap.size + 1, 4, none⟩ = some (.int .i64 (0)) ∧ W'.cell? ⟨w.heap.size + 1, 5, none⟩ = some (.bool (false)) ∧ W'.cell? ⟨w.heap.size + 1, 6, none⟩ = some (.int .i64 (0)) ∧ (convert 23 9 (.slice (some ⟨b, off, none⟩) 5 cap)).run Tryz.prog W' = .ok (.string (strOfNums (zs.take 5))) W' ∧ Below wc.heap.size wc W') := fun W' hb' => ⟨keep_cell hb' x0, keep_cell hb' x1, keep_cell hb' x2, keep_cell hb' x3, keep_cell hb' x4, keep_cell hb' x5, keep_cell hb' x6, conv_any ((h.take (m := 5) (by omega)).below ((below_boxS hB).trans (hb'.mono (below_boxS hB).size))) cap, hb'⟩
      refine wp_region_noPanic ?_
      refine wp_region_held_drew (S := fun W' => W'.cell? ⟨w.heap.size + 1, 0, none⟩ = some (.int .i64 (d0)) ∧ W'.cell? ⟨w.heap.size + 1, 1, none⟩ = some (.int .i64 (d1 * 256 + d2)) ∧ W'.cell? ⟨w.heap.size + 1, 2, none⟩ = some (.int .i64 (0)) ∧ W'.cell? ⟨w.heap.size + 1, 3, none⟩ = some (.bool (false)) ∧ W'.cell? ⟨w.heap.size + 1, 4, none⟩ = some (.int .i64 (0)) ∧ W'.cell? ⟨w.heap.size + 1, 5, none⟩ = some (.bool (false)) ∧ W'.cell? ⟨w.heap.size + 1, 6, none⟩ = some (.int .i64 (0)) ∧ (convert 23 9 (.slice (some ⟨b, off, none⟩) 5 cap)).run Tryz.prog W' = .ok (.string (strOfNums (zs.take 5))) W' ∧ Below wc.heap.size wc W') (by kernel_rfl) (HS.out _ (Below.refl _ _).drew) (fun hH => ?_)
      refine hTake (i := 0) (v := ?_) rfl (by kernel_rfl) (by kernel_rfl) (by kernel_rfl) (by rfl) ?_ hH ?_
      rotate_left
      · intro W hW; (try dsimp only at hW); go_simp <;> with_reducible rfl
      simp only [Act.put, List.setIfInBounds_toArray, List.set_cons_zero, List.set_cons_succ]
      refine wpAnyH_ready (rs := [1]) (by kernel_rfl) (by simp) ?_
      refine AllReadyH.cons rfl (fun K hK => ?_) AllReadyH.nil
      go_simp
      refine (specRec_any (d0) (d1 * 256 + d2) (0) (false) (0) (false) (0) _).mono ?_
      rintro e w1 ⟨rfl, b1⟩
      rw [HF.out]
      have b1 := hH.2.2.2.2.2.2.2.2.trans (b1.mono (by simp))
      go_wp2_with fail
      refine hK.out _ _ ?_ (fun hH => ?_)
      · exact HS.out _ b1
      clear hK K
      refine hTake (i := 2) (v := ?_) rfl (by kernel_rfl) (by kernel_rfl) (by kernel_rfl) (by rfl) ?_ hH ?_
      rotate_left
      · intro W hW; (try dsimp only at hW); go_simp <;> with_reducible rfl
      simp only [Act.put, List.setIfInBounds_toArray, List.set_cons_zero, List.set_cons_succ]
      refine hTake (i := 3) (v := ?_) rfl (by kernel_rfl) (by kernel_rfl) (by kernel_rfl) (by rfl) ?_ hH ?_
      rotate_left
      · intro W hW; (try dsimp only at hW); go_simp <;> with_reducible rfl
      simp only [Act.put, List.setIfInBounds_toArray, List.set_cons_zero, List.set_cons_succ]
      refine hTake (i := 4) (v := ?_) rfl (by kernel_rfl) (by kernel_rfl) (by kernel_rfl) (by rfl) ?_ hH ?_
      rotate_left
      · intro W hW; (try dsimp only at hW); go_simp <;> with_reducible rfl
      simp only [Act.put, List.setIfInBounds_toArray, List.set_cons_zero, List.set_cons_succ]
      refine hTake (i := 7) (v := ?_) rfl (by kernel_rfl) (by kernel_rfl) (by kernel_rfl) (by rfl) ?_ hH ?_
      rotate_left
      · intro W hW; (try dsimp only at hW); go_simp <;> with_reducible rfl
      simp only [Act.put, List.setIfInBounds_toArray, List.set_cons_zero, List.set_cons_succ]
      refine hTake (i := 8) (v := ?_) rfl (by kernel_rfl) (by kernel_rfl) (by kernel_rfl) (by rfl) ?_ hH ?_
      rotate_left
      · intro W hW; (try dsimp only at hW); go_simp <;> with_reducible rfl
      simp only [Act.put, List.setIfInBounds_toArray, List.set_cons_zero, List.set_cons_succ]
      refine hTake (i := 9) (v := ?_) rfl (by kernel_rfl) (by kernel_rfl) (by kernel_rfl) (by rfl) ?_ hH ?_
      rotate_left
      · intro W hW; (try dsimp only at hW); go_simp <;> with_reducible rfl
      simp only [Act.put, List.setIfInBounds_toArray, List.set_cons_zero, List.set_cons_succ]
      refine hTake (i := 10) (v := ?_) rfl (by kernel_rfl) (by kernel_rfl) (by kernel_rfl) (by rfl) ?_ hH ?_
      rotate_left
      · intro W hW; (try dsimp only at hW); go_simp <;> with_reducible rfl
      simp only [Act.put, List.setIfInBounds_toArray, List.set_cons_zero, List.set_cons_succ]
      refine wpAnyH_ready (rs := [5]) (by kernel_rfl) (by simp) ?_
      refine AllReadyH.cons rfl (fun K hK => ?_) AllReadyH.nil
      go_simp
      refine (l2Pack_any (d0) (d1 * 256 + d2) (0) (false) (0) (false) (0) _ fit).mono ?_
      rw [HLn.out]
      rintro e w2 ⟨g, cp, rfl, own, b2⟩
      have b2 := hH.2.2.2.2.2.2.2.2.trans (b2.mono b1.size)
      have hcv := conv_any (w := w2) (a := some ⟨g, 0, none⟩) (n := 5) (zs := Ch.Rec.bytes ⟨d0, d1 * 256 + d2, 0, false, 0, false, 0⟩) (by simpa using owns_cells own) cp
      go_wp2_with fail
      refine hK.out _ _ ?_ (fun hH => ?_)
      · exact HS.out _ b2
      clear hK K
      refine wpAnyH_ready (rs := [6]) (by kernel_rfl) (by simp) ?_
      refine AllReadyH.cons rfl (fun K hK => ?_) AllReadyH.nil
      go_simp
      refine hK.out _ _ ?_ (fun hH => ?_)
      · exact hH
      clear hK K
      refine hTake (i := 11) (v := ?_) rfl (by kernel_rfl) (by kernel_rfl) (by kernel_rfl) (by rfl) ?_ hH ?_
      rotate_left
      · intro W hW; (try dsimp only at hW); go_simp <;> with_reducible rfl
      simp only [Act.put, List.setIfInBounds_toArray, List.set_cons_zero, List.set_cons_succ]
      refine hTake (i := 12) (v := ?_) rfl (by kernel_rfl) (by kernel_rfl) (by kernel_rfl) (by rfl) ?_ hH ?_
      rotate_left
      · intro W hW; (try dsimp only at hW); go_simp <;> with_reducible rfl
      simp only [Act.put, List.setIfInBounds_toArray, List.set_cons_zero, List.set_cons_succ]
      refine wpAnyH_done (by kernel_rfl) ?_ _
      refine NoPanic.normal ?_
      clear hcv E0 HLn
      have zc := b2.size
      have x0 := keep_cell b2 x0
      have x1 := keep_cell b2 x1
      have x2 := keep_cell b2 x2
      have x3 := keep_cell b2 x3
      have x4 := keep_cell b2 x4
      have x5 := keep_cell b2 x5
      have x6 := keep_cell b2 x6
      have bF := hB.trans (b2.mono (by omega))
      have bF' : Below (w.alloc (.cells #[.int .i64 0, .int .i64 0, .int .i64 0, .bool false, .int .i64 0, .bool false, .int .i64 0] 54)).heap.size (w.alloc (.cells #[.int .i64 0, .int .i64 0, .int .i64 0, .bool false, .int .i64 0, .bool false, .int .i64 0] 54)) w2 := by simpa using bF
      obtain ⟨y0, y1, y2, y3, y4, y5, y6⟩ := box7 bF'
      have g0 := bF.frozen (p := ⟨w.heap.size, 0, none⟩) (by simp)
      have g1 := bF.frozen (p := ⟨w.heap.size, 1, none⟩) (by simp)
      have g2 := bF.frozen (p := ⟨w.heap.size, 2, none⟩) (by simp)
      have g3 := bF.frozen (p := ⟨w.heap.size, 3, none⟩) (by simp)
      have g4 := bF.frozen (p := ⟨w.heap.size, 4, none⟩) (by simp)
      have g5 := bF.frozen (p := ⟨w.heap.size, 5, none⟩) (by simp)
      have g6 := bF.frozen (p := ⟨w.heap.size, 6, none⟩) (by simp)
      simp [go_sem] at g0 g1 g2 g3 g4 g5 g6
      have bE := below_boxS bF
      have zE := lt_of_cell y0
      clear bF bF'
      go_wp2_with fail
      rw [HV.out]
      refine bodyPost_ret (v := .tuple #[.agg #[.int .i64 0, .int .i64 0, .int .i64 0, .bool false, .int .i64 0, .bool false, .int .i64 0], .int .i64 0]) (by simp [results, Tryz.results26, go_sem, zE, y0, y1, y2, y3, y4, y5, y6]) rfl ⟨rfl, ?_⟩
      repeat (first | with_reducible exact bE | with_reducible refine Below.drew ?_ | with_reducible refine Below.alloc ?_ (by first | omega | (simp; done) | (simp; omega)) _ | with_reducible refine Below.setCell ?_ (by simp) _)
  · have HV : Hid (Ch.firstV zs = (Ch.Rec.zero, 0)) := Ch.firstV_none (by rw [HU.out]; exact fun hh => hf hh.1)
    obtain ⟨fc, hfc⟩ : ∃ fc, fc = Ch.Rec.fault ⟨d0, d1 * 256 + d2, 0, false, 0, false, 0⟩ := ⟨_, rfl⟩
    rw [← hfc] at hf
    have HF : Hid (Ch.Rec.fault ⟨d0, d1 * 256 + d2, 0, false, 0, false, 0⟩ = fc) := hfc.symm
    have hc : (fc != 0) = true := by simpa using hf
    clear hfc hf
    have HS : Hid (∀ W', Below wc.heap.size wc W' → W'.cell? ⟨w.heap.size + 1, 0, none⟩ = some (.int .i64 (d0)) ∧ W'.cell? ⟨w.heap.size + 1, 1, none⟩ = some (.int .i64 (d1 * 256 + d2)) ∧ W'.cell? ⟨w.heap.size + 1, 2, none⟩ = some (.int .i64 (0)) ∧ W'.cell? ⟨w.heap.size + 1, 3, none⟩ = some (.bool (false)) ∧ W'.cell? ⟨w.heap.size + 1, 4, none⟩ = some (.int .i64 (0)) ∧ W'.cell? ⟨w.heap.size + 1, 5, none⟩ = some (.bool (false)) ∧ W'.cell? ⟨w.heap.size + 1, 6, none⟩ = some (.int .i64 (0)) ∧ (convert 23 9 (.slice (some ⟨b, off, none⟩) 5 cap)).run Tryz.prog W' = .ok (.string (strOfNums (zs.take 5))) W' ∧ Below wc.heap.size wc W') := fun W' hb' => ⟨keep_cell hb' x0, keep_cell hb' x1, keep_cell hb' x2, keep_cell hb' x3, keep_cell hb' x4, keep_cell hb' x5, keep_cell hb' x6, conv_any ((h.take (m := 5) (by omega)).below ((below_boxS hB).trans (hb'.mono (below_boxS hB).size))) cap, hb'⟩
    refine wp_region_noPanic ?_
    refine wp_region_held_drew (S := fun W' => W'.cell? ⟨w.heap.size + 1, 0, none⟩ = some (.int .i64 (d0)) ∧ W'.cell? ⟨w.heap.size + 1, 1, none⟩ = some (.int .i64 (d1 * 256 + d2)) ∧ W'.cell? ⟨w.heap.size + 1, 2, none⟩ = some (.int .i64 (0)) ∧ W'.cell? ⟨w.heap.size + 1, 3, none⟩ = some (.bool (false)) ∧ W'.cell? ⟨w.heap.size + 1, 4, none⟩ = some (.int .i64 (0)) ∧ W'.cell? ⟨w.heap.size + 1, 5, none⟩ = some (.bool (false)) ∧ W'.cell? ⟨w.heap.size + 1, 6, none⟩ = some (.int .i64 (0)) ∧ (convert 23 9 (.slice (some ⟨b, off, none⟩) 5 cap)).run Tryz.prog W' = .ok (.string (strOfNums (zs.take 5))) W' ∧ Below wc.heap.size wc W') (by kernel_rfl) (HS.out _ (Below.refl _ _).drew) (fun hH => ?_)
    refine hTake (i := 0) (v := ?_) rfl (by kernel_rfl) (by kernel_rfl) (by kernel_rfl) (by rfl) ?_ hH ?_
    rotate_left
    · intro W hW; (try dsimp only at hW); go_simp <;> with_reducible rfl
    simp only [Act.put, List.setIfInBounds_toArray, List.set_cons_zero, List.set_cons_succ]
    refine wpAnyH_ready (rs := [1]) (by kernel_rfl) (by simp) ?_
    refine AllReadyH.cons rfl (fun K hK => ?_) AllReadyH.nil
    go_simp
    refine (specRec_any (d0) (d1 * 256 + d2) (0) (false) (0) (false) (0) _).mono ?_
    rintro e w1 ⟨rfl, b1⟩
    rw [HF.out]
    have b1 := hH.2.2.2.2.2.2.2.2.trans (b1.mono (by simp))
    go_wp2_with fail
    refine hK.out _ _ ?_ (fun hH => ?_)
    · exact HS.out _ b1
    clear hK K
    refine hTake (i := 2) (v := ?_) rfl (by kernel_rfl) (by kernel_rfl) (by kernel_rfl) (by rfl) ?_ hH ?_
    rotate_left
    · intro W hW; (try dsimp only at hW); go_simp <;> with_reducible rfl
    simp only [Act.put, List.setIfInBounds_toArray, List.set_cons_zero, List.set_cons_succ]
    refine hTake (i := 3) (v := ?_) rfl (by kernel_rfl) (by kernel_rfl) (by kernel_rfl) (by rfl) ?_ hH ?_
    rotate_left
    · intro W hW; (try dsimp only at hW); go_simp <;> with_reducible rfl
    simp only [Act.put, List.setIfInBounds_toArray, List.set_cons_zero, List.set_cons_succ]
    refine hSkip (i := 4) rfl (by kernel_rfl) (by kernel_rfl) (by kernel_rfl) (by rfl) hH ?_
    simp only [Act.put, List.setIfInBounds_toArray, List.set_cons_zero, List.set_cons_succ]
    refine hSkip (i := 5) rfl (by kernel_rfl) (by kernel_rfl) (by kernel_rfl) (by rfl) hH ?_
    simp only [Act.put, List.setIfInBounds_toArray, List.set_cons_zero, List.set_cons_succ]
    refine hSkip (i := 6) rfl (by kernel_rfl) (by kernel_rfl) (by kernel_rfl) (by rfl) hH ?_
    simp only [Act.put, List.setIfInBounds_toArray, List.set_cons_zero, List.set_cons_succ]
    refine hSkip (i := 7) rfl (by kernel_rfl) (by kernel_rfl) (by kernel_rfl) (by rfl) hH ?_
    simp only [Act.put, List.setIfInBounds_toArray, List.set_cons_zero, List.set_cons_succ]
    refine hSkip (i := 8) rfl (by kernel_rfl) (by kernel_rfl) (by kernel_rfl) (by rfl) hH ?_
    simp only [Act.put, List.setIfInBounds_toArray, List.set_cons_zero, List.set_cons_succ]
    refine hSkip (i := 9) rfl (by kernel_rfl) (by kernel_rfl) (by kernel_rfl) (by rfl) hH ?_
    simp only [Act.put, List.setIfInBounds_toArray, List.set_cons_zero, List.set_cons_succ]
    refine hSkip (i := 10) rfl (by kernel_rfl) (by kernel_rfl) (by kernel_rfl) (by rfl) hH ?_
    simp only [Act.put, List.setIfInBounds_toArray, List.set_cons_zero, List.set_cons_succ]
    refine hSkip (i := 11) rfl (by kernel_rfl) (by kernel_rfl) (by kernel_rfl) (by rfl) hH ?_
    simp only [Act.put, List.setIfInBounds_toArray, List.set_cons_zero, List.set_cons_succ]
    refine hTake (i := 12) (v := ?_) rfl (by kernel_rfl) (by kernel_rfl) (by kernel_rfl) (by rfl) ?_ hH ?_
    rotate_left
    · intro W hW; (try dsimp only at hW); go_simp <;> with_reducible rfl
    simp only [Act.put, List.setIfInBounds_toArray, List.set_cons_zero, List.set_cons_succ]
    refine wpAnyH_done (by kernel_rfl) ?_ _
    refine NoPanic.normal ?_
    clear HLn
    have zc := b1.size
    have bF := hB.trans (b1.mono (by omega))
    have bF' : Below (w.alloc (.cells #[.int .i64 0, .int .i64 0, .int .i64 0, .bool false, .int .i64 0, .bool false, .int .i64 0] 54)).heap.size (w.alloc (.cells #[.int .i64 0, .int .i64 0, .int .i64 0, .bool false, .int .i64 0, .bool false, .int .i64 0] 54)) w1 := by simpa using bF
    obtain ⟨y0, y1, y2, y3, y4, y5, y6⟩ := box7 bF'
    have g0 := bF.frozen (p := ⟨w.heap.size, 0, none⟩) (by simp)
    have g1 := bF.frozen (p := ⟨w.heap.size, 1, none⟩) (by simp)
    have g2 := bF.frozen (p := ⟨w.heap.size, 2, none⟩) (by simp)
    have g3 := bF.frozen (p := ⟨w.heap.size, 3, none⟩) (by simp)
    have g4 := bF.frozen (p := ⟨w.heap.size, 4, none⟩) (by simp)
    have g5 := bF.frozen (p := ⟨w.heap.size, 5, none⟩) (by simp)
    have g6 := bF.frozen (p := ⟨w.heap.size, 6, none⟩) (by simp)
    simp [go_sem] at g0 g1 g2 g3 g4 g5 g6
    have bE := below_boxS bF
    have zE := lt_of_cell y0
    clear bF bF'
    go_wp2_with fail
    rw [HV.out]
    refine bodyPost_ret (v := .tuple #[.agg #[.int .i64 0, .int .i64 0, .int .i64 0, .bool false, .int .i64 0, .bool false, .int .i64 0], .int .i64 0]) (by simp [results, Tryz.results26, go_sem, zE, y0, y1, y2, y3, y4, y5, y6]) rfl ⟨rfl, ?_⟩
    repeat (first | with_reducible exact bE | with_reducible refine Below.drew ?_ | with_reducible refine Below.alloc ?_ (by first | omega | (simp; done) | (simp; omega)) _ | with_reducible refine Below.setCell ?_ (by simp) _)
end Go.Proofs.YtoijjjckdggglaaGreat


/- Walks of the first record of bytes: the model's, of a change. -/
namespace Go.Proofs.YtoijjjckdggglaaGreat
open Go.RowKit

set_option linter.unusedSimpArgs false in
set_option maxRecDepth 10000 in
set_option maxHeartbeats 8000000 in
theorem l2One_few (b off n cap : Nat) (zs : List Int) (w : World) (h : CellsAt w (some ⟨b, off, none⟩) n (bts zs)) (hb : IsB zs) (hn : n ≤ 1048576) (_hcap : n ≤ cap) (h5 : 5 ≤ n) (h11 : n < 11) (hset : Ch.sets (zs.getD 0 0) = true) :
    Calls Tryz.prog 26 #[.slice (some ⟨b, off, none⟩) n cap] w fun e w' => e = .returned (.tuple #[recV (Ch.firstV zs).1, .int .i64 (Ch.firstV zs).2]) ∧ Below w.heap.size w w' := by
  have HL := h.len
  have h5' : ¬ (n : Int) < 5 := by omega
  have i0 : (0 : Int) < (n : Int) := by omega
  have i0n : 0 < n := by omega
  obtain ⟨b', off', hbo, hc0⟩ := h.at (show 0 < n by omega)
  simp only [Option.some.injEq, Addr.mk.injEq, and_true] at hbo
  obtain ⟨rfl, rfl⟩ := hbo
  rw [Nat.add_zero] at hc0
  obtain ⟨p0, q0⟩ := hb 0
  obtain ⟨p1, q1⟩ := hb 1
  obtain ⟨p2, q2⟩ := hb 2
  have tk1 := fun (W : World) (hW : Below (w.heap.size + 1) (w.alloc (.cells #[.int .i64 0, .int .i64 0, .int .i64 0, .bool false, .int .i64 0, .bool false, .int .i64 0] 54)) W) => take_abs (some ⟨b, off, none⟩) n cap 1 zs W (h.below (below_boxS hW)) hb (by omega) (by omega)
  simp only [Nat.reduceAdd, Int.reduceNeg, Int.cast_ofNat_Int] at tk1
  have HV : Hid (Ch.firstV zs = (Ch.Rec.zero, 0)) := Ch.firstV_none (fun hh => by
    have e1 := hh.2.length_le
    have e2 := Ch.Rec.bytes_len (Ch.unp zs)
    have e3 : (Ch.unp zs).len = 11 := by unfold Ch.unp; rw [if_pos hset]; simp only [Ch.Rec.len]; rw [if_pos hset]
    have e4 := HL.out
    omega)
  have i11 : (n : Int) < 11 := by omega
  generalize zs.getD 0 0 = d0 at *
  generalize zs.getD 1 0 = d1 at *
  generalize zs.getD 2 0 = d2 at *
  have hw0 : IntKind.i64.wrap d0 = d0 := IntWalk.i64_in d0 ⟨by omega, by omega⟩
  go_enter Tryz.func26, Tryz.ntmps26
  go_upto_region 3 with fail
  go_cut [4] (fun s wx => s = .pointer (some ⟨w.heap.size + 1, 0, none⟩) ∧ wx.heap[w.heap.size + 1]? = some (.cells #[.int .i64 d0, .int .i64 (d1 * 256 + d2), .int .i64 0, .bool false, .int .i64 0, .bool false, .int .i64 0] 54 (0, 0)) ∧ Below (w.heap.size + 1) (w.alloc (.cells #[.int .i64 0, .int .i64 0, .int .i64 0, .bool false, .int .i64 0, .bool false, .int .i64 0] 54)) wx ∧ wx.heap.size = w.heap.size + 2)
  case first =>
    have HS : Hid (∀ W', Below (w.heap.size + 1) (w.alloc (.cells #[.int .i64 0, .int .i64 0, .int .i64 0, .bool false, .int .i64 0, .bool false, .int .i64 0] 54)) W' → W'.cell? ⟨b, off, none⟩ = some (.int .u8 d0) ∧ Below (w.heap.size + 1) (w.alloc (.cells #[.int .i64 0, .int .i64 0, .int .i64 0, .bool false, .int .i64 0, .bool false, .int .i64 0] 54)) W') := fun W' hb => ⟨(keep_cell (below_boxS hb) hc0), hb⟩
    refine wp_region_noPanic ?_
    refine wp_region_held_drew (S := fun W' => W'.cell? ⟨b, off, none⟩ = some (.int .u8 d0) ∧ Below (w.heap.size + 1) (w.alloc (.cells #[.int .i64 0, .int .i64 0, .int .i64 0, .bool false, .int .i64 0, .bool false, .int .i64 0] 54)) W') (by kernel_rfl) (HS.out _ (Below.refl _ _).drew) (fun hH => ?_)
    refine hTake (i := 0) (v := ?_) rfl (by kernel_rfl) (by kernel_rfl) (by kernel_rfl) (by rfl) ?_ hH ?_
    rotate_left
    · intro W hW; (try dsimp only at hW); go_simp <;> with_reducible rfl
    simp only [Act.put, List.setIfInBounds_toArray, List.set_cons_zero, List.set_cons_succ]
    refine hTake (i := 1) (v := ?_) rfl (by kernel_rfl) (by kernel_rfl) (by kernel_rfl) (by rfl) ?_ hH ?_
    rotate_left
    · intro W hW; (try dsimp only at hW); go_simp <;> with_reducible rfl
    simp only [Act.put, List.setIfInBounds_toArray, List.set_cons_zero, List.set_cons_succ]
    refine hTake (i := 2) (v := ?_) rfl (by kernel_rfl) (by kernel_rfl) (by kernel_rfl) (by rfl) ?_ hH ?_
    rotate_left
    · intro W hW; (try dsimp only at hW); go_simp <;> with_reducible rfl
    simp only [Act.put, List.setIfInBounds_toArray, List.set_cons_zero, List.set_cons_succ]
    refine hTake (i := 3) (v := ?_) rfl (by kernel_rfl) (by kernel_rfl) (by kernel_rfl) (by rfl) ?_ hH ?_
    rotate_left
    · intro W hW; (try dsimp only at hW); go_simp <;> with_reducible rfl
    simp only [Act.put, List.setIfInBounds_toArray, List.set_cons_zero, List.set_cons_succ]
    refine hTake (i := 4) (v := ?_) rfl (by kernel_rfl) (by kernel_rfl) (by kernel_rfl) (by rfl) ?_ hH ?_
    rotate_left
    · intro W hW; (try dsimp only at hW); go_simp <;> with_reducible rfl
    simp only [Act.put, List.setIfInBounds_toArray, List.set_cons_zero, List.set_cons_succ]
    refine wpAnyH_ready (rs := [5, 7]) (by kernel_rfl) (by simp) ?_
    refine AllReadyH.cons rfl (fun K hK => ?_) (AllReadyH.cons rfl (fun K hK => ?_) AllReadyH.nil)
    focus
      go_simp
      refine (tk1 _ hH.2).mono ?_
      rintro e w1 ⟨rfl, hh1, bq⟩
      have bq := hH.2.trans (bq.mono (by simp))
      go_wp2_with fail
      refine hK.out _ _ ?_ (fun hH => ?_)
      · exact HS.out _ bq
      clear hK K
      refine hTake (i := 6) (v := ?_) rfl (by kernel_rfl) (by kernel_rfl) (by kernel_rfl) (by rfl) ?_ hH ?_
      rotate_left
      · intro W hW; (try dsimp only at hW); go_simp <;> with_reducible rfl
      simp only [Act.put, List.setIfInBounds_toArray, List.set_cons_zero, List.set_cons_succ]
      refine wpAnyH_ready (rs := [7]) (by kernel_rfl) (by simp) ?_
      refine AllReadyH.cons rfl (fun K hK => ?_) AllReadyH.nil
      go_simp
      refine hK.out _ _ ?_ (fun hH => ?_)
      · exact HS.out _ (hH.2.alloc (by first | (simp; done) | (have := hH.2.size; simp at this; omega)) _)
      clear hK K
      have zq := bq.size
      simp at zq
      have hsq : w1.heap.size = w.heap.size + 1 := by rw [hh1]; simp
      refine wpAnyH_ready (rs := [8]) (by kernel_rfl) (by simp) ?_
      refine AllReadyH.cons rfl (fun K hK => ?_) AllReadyH.nil
      go_simp
      refine hK.out _ _ ?_ (fun hH => ?_)
      · exact HS.out _ (bq.alloc zq _)
      clear hK K
      refine wpAnyH_done (by kernel_rfl) ?_ _
      refine NoPanic.normal ?_
      go_wp2_with fail
      go_meet
      exact ⟨rfl, heap_new' hsq.symm, bq.alloc zq _, by simp [hsq]⟩
    rotate_left
    focus
      go_simp
      refine hK.out _ _ ?_ (fun hH => ?_)
      · exact HS.out _ (hH.2.alloc (by first | (simp; done) | (have := hH.2.size; simp at this; omega)) _)
      clear hK K
      refine wpAnyH_ready (rs := [5]) (by kernel_rfl) (by simp) ?_
      refine AllReadyH.cons rfl (fun K hK => ?_) AllReadyH.nil
      go_simp
      refine (tk1 _ hH.2).mono ?_
      rintro e w1 ⟨rfl, hh1, bq⟩
      have bq := hH.2.trans (bq.mono (by simp))
      go_wp2_with fail
      refine hK.out _ _ ?_ (fun hH => ?_)
      · exact HS.out _ bq
      clear hK K
      refine hTake (i := 6) (v := ?_) rfl (by kernel_rfl) (by kernel_rfl) (by kernel_rfl) (by rfl) ?_ hH ?_
      rotate_left
      · intro W hW; (try dsimp only at hW); go_simp <;> with_reducible rfl
      simp only [Act.put, List.setIfInBounds_toArray, List.set_cons_zero, List.set_cons_succ]
      have hR : w1.heap[w.heap.size + 1]? = some (.cells #[.int .i64 0, .int .i64 0, .int .i64 0, .bool false, .int .i64 0, .bool false, .int .i64 0] 54 (0, 0)) := by rw [hh1]; exact heap_new' (by simp)
      have hsq : w1.heap.size = w.heap.size + 2 := by rw [hh1]; simp
      obtain ⟨x0, x1, x2, x3, x4, x5, x6⟩ := row7 hR
      obtain ⟨f0, f1, f2, f3, f4, f5, f6⟩ := frz7 hR
      refine wpAnyH_ready (rs := [8]) (by kernel_rfl) (by simp) ?_
      refine AllReadyH.cons rfl (fun K hK => ?_) AllReadyH.nil
      go_simp
      refine hK.out _ _ ?_ (fun hH => ?_)
      · exact HS.out _ (below_set7 bq (by omega) _ _ _ _ _ _ _)
      clear hK K
      clear x0 x1 x2 x3 x4 x5 x6 f0 f1 f2 f3 f4 f5 f6
      refine wpAnyH_done (by kernel_rfl) ?_ _
      refine NoPanic.normal ?_
      go_wp2_with fail
      go_meet
      exact ⟨rfl, set7_row hR _ _ _ _ _ _ _, below_set7 bq (by omega) _ _ _ _ _ _ _, by simp [hsq]⟩
    rotate_left
  case rest =>
  obtain ⟨rfl, hR, hB, hsz⟩ := hcut
  clear tk1 hc0
  obtain ⟨x0, x1, x2, x3, x4, x5, x6⟩ := row7 hR
  have bF' : Below (w.alloc (.cells #[.int .i64 0, .int .i64 0, .int .i64 0, .bool false, .int .i64 0, .bool false, .int .i64 0] 54)).heap.size (w.alloc (.cells #[.int .i64 0, .int .i64 0, .int .i64 0, .bool false, .int .i64 0, .bool false, .int .i64 0] 54)) wc := by simpa using hB
  obtain ⟨y0, y1, y2, y3, y4, y5, y6⟩ := box7 bF'
  have g0 := hB.frozen (p := ⟨w.heap.size, 0, none⟩) (by simp)
  have g1 := hB.frozen (p := ⟨w.heap.size, 1, none⟩) (by simp)
  have g2 := hB.frozen (p := ⟨w.heap.size, 2, none⟩) (by simp)
  have g3 := hB.frozen (p := ⟨w.heap.size, 3, none⟩) (by simp)
  have g4 := hB.frozen (p := ⟨w.heap.size, 4, none⟩) (by simp)
  have g5 := hB.frozen (p := ⟨w.heap.size, 5, none⟩) (by simp)
  have g6 := hB.frozen (p := ⟨w.heap.size, 6, none⟩) (by simp)
  simp [go_sem] at g0 g1 g2 g3 g4 g5 g6
  have bE := below_boxS hB
  have zE := lt_of_cell y0
  clear hB bF' hR
  go_wp2_with (go_at_call 40; refine (l2Sets_any _ _).mono ?_; rintro e w1 ⟨rfl, hw1⟩; subst w1)
  rw [HV.out]
  refine bodyPost_ret (v := .tuple #[.agg #[.int .i64 0, .int .i64 0, .int .i64 0, .bool false, .int .i64 0, .bool false, .int .i64 0], .int .i64 0]) (by simp [results, Tryz.results26, go_sem, zE, y0, y1, y2, y3, y4, y5, y6]) rfl ⟨rfl, ?_⟩
  repeat (first | with_reducible exact bE | with_reducible refine Below.drew ?_ | with_reducible refine Below.alloc ?_ (by first | omega | (simp; done) | (simp; omega)) _ | with_reducible refine Below.setCell ?_ (by simp) _)

set_option linter.unusedSimpArgs false in
set_option maxRecDepth 10000 in
set_option maxHeartbeats 8000000 in
theorem l2One_full (b off n cap : Nat) (zs : List Int) (w : World) (h : CellsAt w (some ⟨b, off, none⟩) n (bts zs)) (hb : IsB zs) (hn : n ≤ 1048576) (hcap : n ≤ cap) (h11 : 11 ≤ n) (hset : Ch.sets (zs.getD 0 0) = true) :
    Calls Tryz.prog 26 #[.slice (some ⟨b, off, none⟩) n cap] w fun e w' => e = .returned (.tuple #[recV (Ch.firstV zs).1, .int .i64 (Ch.firstV zs).2]) ∧ Below w.heap.size w w' := by
  have HL := h.len
  have h5' : ¬ (n : Int) < 5 := by omega
  have i0 : (0 : Int) < (n : Int) := by omega
  have i0n : 0 < n := by omega
  obtain ⟨b', off', hbo, hc0⟩ := h.at (show 0 < n by omega)
  simp only [Option.some.injEq, Addr.mk.injEq, and_true] at hbo
  obtain ⟨rfl, rfl⟩ := hbo
  rw [Nat.add_zero] at hc0
  obtain ⟨p0, q0⟩ := hb 0
  obtain ⟨p1, q1⟩ := hb 1
  obtain ⟨p2, q2⟩ := hb 2
  obtain ⟨p3, q3⟩ := hb 3
  obtain ⟨p4, q4⟩ := hb 4
  obtain ⟨p5, q5⟩ := hb 5
  obtain ⟨p6, q6⟩ := hb 6
  obtain ⟨p7, q7⟩ := hb 7
  obtain ⟨p8, q8⟩ := hb 8
  have tk1 := fun (W : World) (hW : Below (w.heap.size + 1) (w.alloc (.cells #[.int .i64 0, .int .i64 0, .int .i64 0, .bool false, .int .i64 0, .bool false, .int .i64 0] 54)) W) => take_abs (some ⟨b, off, none⟩) n cap 1 zs W (h.below (below_boxS hW)) hb (by omega) (by omega)
  simp only [Nat.reduceAdd, Int.reduceNeg, Int.cast_ofNat_Int] at tk1
  have tk5 := fun (W : World) (hW : Below (w.heap.size + 1) (w.alloc (.cells #[.int .i64 0, .int .i64 0, .int .i64 0, .bool false, .int .i64 0, .bool false, .int .i64 0] 54)) W) => take_abs (some ⟨b, off, none⟩) n cap 5 zs W (h.below (below_boxS hW)) hb (by omega) (by omega)
  simp only [Nat.reduceAdd, Int.reduceNeg, Int.cast_ofNat_Int] at tk5
  have tk7 := fun (W : World) (hW : Below (w.heap.size + 1) (w.alloc (.cells #[.int .i64 0, .int .i64 0, .int .i64 0, .bool false, .int .i64 0, .bool false, .int .i64 0] 54)) W) => take_abs (some ⟨b, off, none⟩) n cap 7 zs W (h.below (below_boxS hW)) hb (by omega) (by omega)
  simp only [Nat.reduceAdd, Int.reduceNeg, Int.cast_ofNat_Int] at tk7
  have hc3 : Hid (∀ W, Below (w.heap.size + 1) (w.alloc (.cells #[.int .i64 0, .int .i64 0, .int .i64 0, .bool false, .int .i64 0, .bool false, .int .i64 0] 54)) W → W.cell? ⟨b, off + 3, none⟩ = some (.int .u8 (zs.getD 3 0))) := by
    intro W hW
    obtain ⟨b', off', hbo, hc⟩ := h.at (show 3 < n by omega)
    simp only [Option.some.injEq, Addr.mk.injEq, and_true] at hbo
    obtain ⟨rfl, rfl⟩ := hbo
    exact keep_cell (below_boxS hW) hc
  have hc4 : Hid (∀ W, Below (w.heap.size + 1) (w.alloc (.cells #[.int .i64 0, .int .i64 0, .int .i64 0, .bool false, .int .i64 0, .bool false, .int .i64 0] 54)) W → W.cell? ⟨b, off + 4, none⟩ = some (.int .u8 (zs.getD 4 0))) := by
    intro W hW
    obtain ⟨b', off', hbo, hc⟩ := h.at (show 4 < n by omega)
    simp only [Option.some.injEq, Addr.mk.injEq, and_true] at hbo
    obtain ⟨rfl, rfl⟩ := hbo
    exact keep_cell (below_boxS hW) hc
  have HU : Hid (Ch.unp zs = ⟨zs.getD 0 0, zs.getD 1 0 * 256 + zs.getD 2 0, zs.getD 3 0, zs.getD 4 0 % 2 == 1, zs.getD 5 0 * 256 + zs.getD 6 0, zs.getD 4 0 / 2 % 2 == 1, zs.getD 7 0 * 256 + zs.getD 8 0⟩) := by show _ = _; unfold Ch.unp; rw [hset]; rfl
  generalize zs.getD 0 0 = d0 at *
  generalize zs.getD 1 0 = d1 at *
  generalize zs.getD 2 0 = d2 at *
  generalize zs.getD 3 0 = d3 at *
  generalize zs.getD 4 0 = d4 at *
  generalize zs.getD 5 0 = d5 at *
  generalize zs.getD 6 0 = d6 at *
  generalize zs.getD 7 0 = d7 at *
  generalize zs.getD 8 0 = d8 at *
  have hw0 : IntKind.i64.wrap d0 = d0 := IntWalk.i64_in d0 ⟨by omega, by omega⟩
  have hw3 : IntKind.i64.wrap d3 = d3 := IntWalk.i64_in d3 ⟨by omega, by omega⟩
  have i11 : ¬ (n : Int) < 11 := by omega
  have i3 : (3 : Int) < (n : Int) := by omega
  have i4 : (4 : Int) < (n : Int) := by omega
  have i3n : 3 < n := by omega
  have i4n : 4 < n := by omega
  go_enter Tryz.func26, Tryz.ntmps26
  go_upto_region 3 with fail
  go_cut [4] (fun s wx => s = .pointer (some ⟨w.heap.size + 1, 0, none⟩) ∧ wx.heap[w.heap.size + 1]? = some (.cells #[.int .i64 d0, .int .i64 (d1 * 256 + d2), .int .i64 0, .bool false, .int .i64 0, .bool false, .int .i64 0] 54 (0, 0)) ∧ Below (w.heap.size + 1) (w.alloc (.cells #[.int .i64 0, .int .i64 0, .int .i64 0, .bool false, .int .i64 0, .bool false, .int .i64 0] 54)) wx ∧ wx.heap.size = w.heap.size + 2)
  case first =>
    have HS : Hid (∀ W', Below (w.heap.size + 1) (w.alloc (.cells #[.int .i64 0, .int .i64 0, .int .i64 0, .bool false, .int .i64 0, .bool false, .int .i64 0] 54)) W' → W'.cell? ⟨b, off, none⟩ = some (.int .u8 d0) ∧ Below (w.heap.size + 1) (w.alloc (.cells #[.int .i64 0, .int .i64 0, .int .i64 0, .bool false, .int .i64 0, .bool false, .int .i64 0] 54)) W') := fun W' hb => ⟨(keep_cell (below_boxS hb) hc0), hb⟩
    refine wp_region_noPanic ?_
    refine wp_region_held_drew (S := fun W' => W'.cell? ⟨b, off, none⟩ = some (.int .u8 d0) ∧ Below (w.heap.size + 1) (w.alloc (.cells #[.int .i64 0, .int .i64 0, .int .i64 0, .bool false, .int .i64 0, .bool false, .int .i64 0] 54)) W') (by kernel_rfl) (HS.out _ (Below.refl _ _).drew) (fun hH => ?_)
    refine hTake (i := 0) (v := ?_) rfl (by kernel_rfl) (by kernel_rfl) (by kernel_rfl) (by rfl) ?_ hH ?_
    rotate_left
    · intro W hW; (try dsimp only at hW); go_simp <;> with_reducible rfl
    simp only [Act.put, List.setIfInBounds_toArray, List.set_cons_zero, List.set_cons_succ]
    refine hTake (i := 1) (v := ?_) rfl (by kernel_rfl) (by kernel_rfl) (by kernel_rfl) (by rfl) ?_ hH ?_
    rotate_left
    · intro W hW; (try dsimp only at hW); go_simp <;> with_reducible rfl
    simp only [Act.put, List.setIfInBounds_toArray, List.set_cons_zero, List.set_cons_succ]
    refine hTake (i := 2) (v := ?_) rfl (by kernel_rfl) (by kernel_rfl) (by kernel_rfl) (by rfl) ?_ hH ?_
    rotate_left
    · intro W hW; (try dsimp only at hW); go_simp <;> with_reducible rfl
    simp only [Act.put, List.setIfInBounds_toArray, List.set_cons_zero, List.set_cons_succ]
    refine hTake (i := 3) (v := ?_) rfl (by kernel_rfl) (by kernel_rfl) (by kernel_rfl) (by rfl) ?_ hH ?_
    rotate_left
    · intro W hW; (try dsimp only at hW); go_simp <;> with_reducible rfl
    simp only [Act.put, List.setIfInBounds_toArray, List.set_cons_zero, List.set_cons_succ]
    refine hTake (i := 4) (v := ?_) rfl (by kernel_rfl) (by kernel_rfl) (by kernel_rfl) (by rfl) ?_ hH ?_
    rotate_left
    · intro W hW; (try dsimp only at hW); go_simp <;> with_reducible rfl
    simp only [Act.put, List.setIfInBounds_toArray, List.set_cons_zero, List.set_cons_succ]
    refine wpAnyH_ready (rs := [5, 7]) (by kernel_rfl) (by simp) ?_
    refine AllReadyH.cons rfl (fun K hK => ?_) (AllReadyH.cons rfl (fun K hK => ?_) AllReadyH.nil)
    focus
      go_simp
      refine (tk1 _ hH.2).mono ?_
      rintro e w1 ⟨rfl, hh1, bq⟩
      have bq := hH.2.trans (bq.mono (by simp))
      go_wp2_with fail
      refine hK.out _ _ ?_ (fun hH => ?_)
      · exact HS.out _ bq
      clear hK K
      refine hTake (i := 6) (v := ?_) rfl (by kernel_rfl) (by kernel_rfl) (by kernel_rfl) (by rfl) ?_ hH ?_
      rotate_left
      · intro W hW; (try dsimp only at hW); go_simp <;> with_reducible rfl
      simp only [Act.put, List.setIfInBounds_toArray, List.set_cons_zero, List.set_cons_succ]
      refine wpAnyH_ready (rs := [7]) (by kernel_rfl) (by simp) ?_
      refine AllReadyH.cons rfl (fun K hK => ?_) AllReadyH.nil
      go_simp
      refine hK.out _ _ ?_ (fun hH => ?_)
      · exact HS.out _ (hH.2.alloc (by first | (simp; done) | (have := hH.2.size; simp at this; omega)) _)
      clear hK K
      have zq := bq.size
      simp at zq
      have hsq : w1.heap.size = w.heap.size + 1 := by rw [hh1]; simp
      refine wpAnyH_ready (rs := [8]) (by kernel_rfl) (by simp) ?_
      refine AllReadyH.cons rfl (fun K hK => ?_) AllReadyH.nil
      go_simp
      refine hK.out _ _ ?_ (fun hH => ?_)
      · exact HS.out _ (bq.alloc zq _)
      clear hK K
      refine wpAnyH_done (by kernel_rfl) ?_ _
      refine NoPanic.normal ?_
      go_wp2_with fail
      go_meet
      exact ⟨rfl, heap_new' hsq.symm, bq.alloc zq _, by simp [hsq]⟩
    rotate_left
    focus
      go_simp
      refine hK.out _ _ ?_ (fun hH => ?_)
      · exact HS.out _ (hH.2.alloc (by first | (simp; done) | (have := hH.2.size; simp at this; omega)) _)
      clear hK K
      refine wpAnyH_ready (rs := [5]) (by kernel_rfl) (by simp) ?_
      refine AllReadyH.cons rfl (fun K hK => ?_) AllReadyH.nil
      go_simp
      refine (tk1 _ hH.2).mono ?_
      rintro e w1 ⟨rfl, hh1, bq⟩
      have bq := hH.2.trans (bq.mono (by simp))
      go_wp2_with fail
      refine hK.out _ _ ?_ (fun hH => ?_)
      · exact HS.out _ bq
      clear hK K
      refine hTake (i := 6) (v := ?_) rfl (by kernel_rfl) (by kernel_rfl) (by kernel_rfl) (by rfl) ?_ hH ?_
      rotate_left
      · intro W hW; (try dsimp only at hW); go_simp <;> with_reducible rfl
      simp only [Act.put, List.setIfInBounds_toArray, List.set_cons_zero, List.set_cons_succ]
      have hR : w1.heap[w.heap.size + 1]? = some (.cells #[.int .i64 0, .int .i64 0, .int .i64 0, .bool false, .int .i64 0, .bool false, .int .i64 0] 54 (0, 0)) := by rw [hh1]; exact heap_new' (by simp)
      have hsq : w1.heap.size = w.heap.size + 2 := by rw [hh1]; simp
      obtain ⟨x0, x1, x2, x3, x4, x5, x6⟩ := row7 hR
      obtain ⟨f0, f1, f2, f3, f4, f5, f6⟩ := frz7 hR
      refine wpAnyH_ready (rs := [8]) (by kernel_rfl) (by simp) ?_
      refine AllReadyH.cons rfl (fun K hK => ?_) AllReadyH.nil
      go_simp
      refine hK.out _ _ ?_ (fun hH => ?_)
      · exact HS.out _ (below_set7 bq (by omega) _ _ _ _ _ _ _)
      clear hK K
      clear x0 x1 x2 x3 x4 x5 x6 f0 f1 f2 f3 f4 f5 f6
      refine wpAnyH_done (by kernel_rfl) ?_ _
      refine NoPanic.normal ?_
      go_wp2_with fail
      go_meet
      exact ⟨rfl, set7_row hR _ _ _ _ _ _ _, below_set7 bq (by omega) _ _ _ _ _ _ _, by simp [hsq]⟩
    rotate_left
  case rest =>
  obtain ⟨rfl, hR, hB, hsz⟩ := hcut
  have x0 := (row7 hR).1
  go_upto_region 9 with (go_at_call 40; refine (l2Sets_any _ _).mono ?_; rintro e w1 ⟨rfl, hw1⟩; subst w1)
  go_cut [] (fun wx => wx.heap[w.heap.size + 1]? = some (.cells #[.int .i64 d0, .int .i64 (d1 * 256 + d2), .int .i64 d3, .bool false, .int .i64 0, .bool false, .int .i64 0] 54 (0, 0)) ∧ Below (w.heap.size + 1) (w.alloc (.cells #[.int .i64 0, .int .i64 0, .int .i64 0, .bool false, .int .i64 0, .bool false, .int .i64 0] 54)) wx ∧ wx.heap.size = w.heap.size + 2)
  case first =>
    have hd3 := hc3.out _ hB
    obtain ⟨x0, x1, x2, x3, x4, x5, x6⟩ := row7 hR
    obtain ⟨f0, f1, f2, f3, f4, f5, f6⟩ := frz7 hR
    go_wp2_with fail
    go_meet
    exact ⟨Joins.block_setCell (i := 2) hR _, hB.setCell (p := ⟨w.heap.size + 1, 2, none⟩) (by simp) _, by simpa using hsz⟩
  case rest =>
  clear hR hB hsz x0
  obtain ⟨hR, hB, hsz⟩ := hcut
  go_upto_region 10 with fail
  go_cut [] (fun wx => wx.heap[w.heap.size + 1]? = some (.cells #[.int .i64 d0, .int .i64 (d1 * 256 + d2), .int .i64 d3, .bool (d4 % 2 == 1), .int .i64 0, .bool false, .int .i64 0] 54 (0, 0)) ∧ Below (w.heap.size + 1) (w.alloc (.cells #[.int .i64 0, .int .i64 0, .int .i64 0, .bool false, .int .i64 0, .bool false, .int .i64 0] 54)) wx ∧ wx.heap.size = w.heap.size + 2)
  case first =>
    have hd4 := hc4.out _ hB
    obtain ⟨x0, x1, x2, x3, x4, x5, x6⟩ := row7 hR
    obtain ⟨f0, f1, f2, f3, f4, f5, f6⟩ := frz7 hR
    go_wp2_with fail
    go_meet
    exact ⟨Joins.block_setCell (i := 3) hR _, hB.setCell (p := ⟨w.heap.size + 1, 3, none⟩) (by simp) _, by simpa using hsz⟩
  case rest =>
  clear hR hB hsz
  obtain ⟨hR, hB, hsz⟩ := hcut
  go_upto_region 11 with fail
  go_cut [] (fun wx => wx.heap[w.heap.size + 1]? = some (.cells #[.int .i64 d0, .int .i64 (d1 * 256 + d2), .int .i64 d3, .bool (d4 % 2 == 1), .int .i64 0, .bool (d4 / 2 % 2 == 1), .int .i64 0] 54 (0, 0)) ∧ Below (w.heap.size + 1) (w.alloc (.cells #[.int .i64 0, .int .i64 0, .int .i64 0, .bool false, .int .i64 0, .bool false, .int .i64 0] 54)) wx ∧ wx.heap.size = w.heap.size + 2)
  case first =>
    have hd4 := hc4.out _ hB
    obtain ⟨x0, x1, x2, x3, x4, x5, x6⟩ := row7 hR
    obtain ⟨f0, f1, f2, f3, f4, f5, f6⟩ := frz7 hR
    go_wp2_with fail
    go_meet
    exact ⟨Joins.block_setCell (i := 5) hR _, hB.setCell (p := ⟨w.heap.size + 1, 5, none⟩) (by simp) _, by simpa using hsz⟩
  case rest =>
  clear hR hB hsz
  obtain ⟨hR, hB, hsz⟩ := hcut
  go_upto_region 12 with fail
  go_cut [] (fun wx => wx.heap[w.heap.size + 1]? = some (.cells #[.int .i64 d0, .int .i64 (d1 * 256 + d2), .int .i64 d3, .bool (d4 % 2 == 1), .int .i64 (d5 * 256 + d6), .bool (d4 / 2 % 2 == 1), .int .i64 0] 54 (0, 0)) ∧ Below (w.heap.size + 1) (w.alloc (.cells #[.int .i64 0, .int .i64 0, .int .i64 0, .bool false, .int .i64 0, .bool false, .int .i64 0] 54)) wx ∧ wx.heap.size = w.heap.size + 2)
  case first =>
    go_wp2_with fail
    refine (tk5 _ hB).mono ?_
    rintro e w1 ⟨rfl, hh1, b1⟩
    have hR1 : w1.heap[w.heap.size + 1]? = _ := (congrArg (fun hp => hp[w.heap.size + 1]?) hh1).trans hR
    have hs1 : w1.heap.size = w.heap.size + 2 := by rw [hh1]; exact hsz
    have hB1 := hB.trans (b1.mono (by omega))
    obtain ⟨x0, x1, x2, x3, x4, x5, x6⟩ := row7 hR1
    obtain ⟨f0, f1, f2, f3, f4, f5, f6⟩ := frz7 hR1
    go_wp2_with fail
    go_meet
    exact ⟨Joins.block_setCell (i := 4) hR1 _, hB1.setCell (p := ⟨w.heap.size + 1, 4, none⟩) (by simp) _, by simpa using hs1⟩
  case rest =>
  clear hR hB hsz
  obtain ⟨hR, hB, hsz⟩ := hcut
  go_upto_region 13 with fail
  go_cut [] (fun wx => wx.heap[w.heap.size + 1]? = some (.cells #[.int .i64 d0, .int .i64 (d1 * 256 + d2), .int .i64 d3, .bool (d4 % 2 == 1), .int .i64 (d5 * 256 + d6), .bool (d4 / 2 % 2 == 1), .int .i64 (d7 * 256 + d8)] 54 (0, 0)) ∧ Below (w.heap.size + 1) (w.alloc (.cells #[.int .i64 0, .int .i64 0, .int .i64 0, .bool false, .int .i64 0, .bool false, .int .i64 0] 54)) wx ∧ wx.heap.size = w.heap.size + 2)
  case first =>
    go_wp2_with fail
    refine (tk7 _ hB).mono ?_
    rintro e w1 ⟨rfl, hh1, b1⟩
    have hR1 : w1.heap[w.heap.size + 1]? = _ := (congrArg (fun hp => hp[w.heap.size + 1]?) hh1).trans hR
    have hs1 : w1.heap.size = w.heap.size + 2 := by rw [hh1]; exact hsz
    have hB1 := hB.trans (b1.mono (by omega))
    obtain ⟨x0, x1, x2, x3, x4, x5, x6⟩ := row7 hR1
    obtain ⟨f0, f1, f2, f3, f4, f5, f6⟩ := frz7 hR1
    go_wp2_with fail
    go_meet
    exact ⟨Joins.block_setCell (i := 6) hR1 _, hB1.setCell (p := ⟨w.heap.size + 1, 6, none⟩) (by simp) _, by simpa using hs1⟩
  case rest =>
  clear hR hB hsz
  obtain ⟨hR, hB, hsz⟩ := hcut
  clear tk1 tk5 tk7 hc0 hc3 hc4
  obtain ⟨x0, x1, x2, x3, x4, x5, x6⟩ := row7 hR
  have j1 : (11 : Int) ≤ (n : Int) := by omega
  have j2 : (11 : Int) ≤ (cap : Int) := by omega
  have j3 : 11 ≤ cap := by omega
  have HLn : Hid (Ch.Rec.len ⟨d0, d1 * 256 + d2, d3, d4 % 2 == 1, d5 * 256 + d6, d4 / 2 % 2 == 1, d7 * 256 + d8⟩ = 11) := by show _ = _; simp [Ch.Rec.len, hset]
  go_upto_region 14 with fail
  by_cases hf : Ch.Rec.fault ⟨d0, d1 * 256 + d2, d3, d4 % 2 == 1, d5 * 256 + d6, d4 / 2 % 2 == 1, d7 * 256 + d8⟩ = 0
  · have HF : Hid (Ch.Rec.fault ⟨d0, d1 * 256 + d2, d3, d4 % 2 == 1, d5 * 256 + d6, d4 / 2 % 2 == 1, d7 * 256 + d8⟩ = 0) := hf
    have fit := Ch.Rec.fit hf
    have E0 := nums_eq (isB_of (Ch.Rec.all_bytes fit)) (isB_take hb 11)
    have HP : Hid (decide (Ch.Rec.bytes ⟨d0, d1 * 256 + d2, d3, d4 % 2 == 1, d5 * 256 + d6, d4 / 2 % 2 == 1, d7 * 256 + d8⟩ = zs.take 11) = decide (Ch.Rec.bytes ⟨d0, d1 * 256 + d2, d3, d4 % 2 == 1, d5 * 256 + d6, d4 / 2 % 2 == 1, d7 * 256 + d8⟩ <+: zs)) := by
      show _ = _
      rw [← prefix_iff, Ch.Rec.bytes_len, HLn.out]
      by_cases e : zs.take 11 = Ch.Rec.bytes ⟨d0, d1 * 256 + d2, d3, d4 % 2 == 1, d5 * 256 + d6, d4 / 2 % 2 == 1, d7 * 256 + d8⟩
      · simp [e]
      · simp [e, Ne.symm e]
    clear hf
    by_cases hp : Ch.Rec.bytes ⟨d0, d1 * 256 + d2, d3, d4 % 2 == 1, d5 * 256 + d6, d4 / 2 % 2 == 1, d7 * 256 + d8⟩ <+: zs
    · rw [HP.out, decide_eq_true hp] at E0
      have HV : Hid (Ch.firstV zs = (⟨d0, d1 * 256 + d2, d3, d4 % 2 == 1, d5 * 256 + d6, d4 / 2 % 2 == 1, d7 * 256 + d8⟩, 11)) := by
        have := Ch.firstV_some (zs := zs) (by rw [HU.out]; exact HF.out) (by rw [HU.out]; exact hp)
        rw [HU.out, HLn.out] at this
        exact this
      clear hp HP
      have HS : Hid (∀ W', Below wc.heap.size wc W' → W'.cell? ⟨w.heap.size + 1, 0, none⟩ = some (.int .i64 (d0)) ∧ W'.cell? ⟨w.heap.size + 1, 1, none⟩ = some (.int .i64 (d1 * 256 + d2)) ∧ W'.cell? ⟨w.heap.size + 1, 2, none⟩ = some (.int .i64 (d3)) ∧ W'.cell? ⟨w.heap.size + 1, 3, none⟩ = some (.bool (d4 % 2 == 1)) ∧ W'.cell? ⟨w.heap.size + 1, 4, none⟩ = some (.int .i64 (d5 * 256 + d6)) ∧ W'.cell? ⟨w.heap.size + 1, 5, none⟩ = some (.bool (d4 / 2 % 2 == 1)) ∧ W'.cell? ⟨w.heap.size + 1, 6, none⟩ = some (.int .i64 (d7 * 256 + d8)) ∧ (convert 23 9 (.slice (some ⟨b, off, none⟩) 11 cap)).run Tryz.prog W' = .ok (.string (strOfNums (zs.take 11))) W' ∧ Below wc.heap.size wc W') := fun W' hb' => ⟨keep_cell hb' x0, keep_cell hb' x1, keep_cell hb' x2, keep_cell hb' x3, keep_cell hb' x4, keep_cell hb' x5, keep_cell hb' x6, conv_any ((h.take (m := 11) (by omega)).below ((below_boxS hB).trans (hb'.mono (below_boxS hB).size))) cap, hb'⟩
      refine wp_region_noPanic ?_
      refine wp_region_held_drew (S := fun W' => W'.cell? ⟨w.heap.size + 1, 0, none⟩ = some (.int .i64 (d0)) ∧ W'.cell? ⟨w.heap.size + 1, 1, none⟩ = some (.int .i64 (d1 * 256 + d2)) ∧ W'.cell? ⟨w.heap.size + 1, 2, none⟩ = some (.int .i64 (d3)) ∧ W'.cell? ⟨w.heap.size + 1, 3, none⟩ = some (.bool (d4 % 2 == 1)) ∧ W'.cell? ⟨w.heap.size + 1, 4, none⟩ = some (.int .i64 (d5 * 256 + d6)) ∧ W'.cell? ⟨w.heap.size + 1, 5, none⟩ = some (.bool (d4 / 2 % 2 == 1)) ∧ W'.cell? ⟨w.heap.size + 1, 6, none⟩ = some (.int .i64 (d7 * 256 + d8)) ∧ (convert 23 9 (.slice (some ⟨b, off, none⟩) 11 cap)).run Tryz.prog W' = .ok (.string (strOfNums (zs.take 11))) W' ∧ Below wc.heap.size wc W') (by kernel_rfl) (HS.out _ (Below.refl _ _).drew) (fun hH => ?_)
      refine hTake (i := 0) (v := ?_) rfl (by kernel_rfl) (by kernel_rfl) (by kernel_rfl) (by rfl) ?_ hH ?_
      rotate_left
      · intro W hW; (try dsimp only at hW); go_simp <;> with_reducible rfl
      simp only [Act.put, List.setIfInBounds_toArray, List.set_cons_zero, List.set_cons_succ]
      refine wpAnyH_ready (rs := [1]) (by kernel_rfl) (by simp) ?_
      refine AllReadyH.cons rfl (fun K hK => ?_) AllReadyH.nil
      go_simp
      refine (specRec_any (d0) (d1 * 256 + d2) (d3) (d4 % 2 == 1) (d5 * 256 + d6) (d4 / 2 % 2 == 1) (d7 * 256 + d8) _).mono ?_
      rintro e w1 ⟨rfl, b1⟩
      rw [HF.out]
      have b1 := hH.2.2.2.2.2.2.2.2.trans (b1.mono (by simp))
      go_wp2_with fail
      refine hK.out _ _ ?_ (fun hH => ?_)
      · exact HS.out _ b1
      clear hK K
      refine hTake (i := 2) (v := ?_) rfl (by kernel_rfl) (by kernel_rfl) (by kernel_rfl) (by rfl) ?_ hH ?_
      rotate_left
      · intro W hW; (try dsimp only at hW); go_simp <;> with_reducible rfl
      simp only [Act.put, List.setIfInBounds_toArray, List.set_cons_zero, List.set_cons_succ]
      refine hTake (i := 3) (v := ?_) rfl (by kernel_rfl) (by kernel_rfl) (by kernel_rfl) (by rfl) ?_ hH ?_
      rotate_left
      · intro W hW; (try dsimp only at hW); go_simp <;> with_reducible rfl
      simp only [Act.put, List.setIfInBounds_toArray, List.set_cons_zero, List.set_cons_succ]
      refine hTake (i := 4) (v := ?_) rfl (by kernel_rfl) (by kernel_rfl) (by kernel_rfl) (by rfl) ?_ hH ?_
      rotate_left
      · intro W hW; (try dsimp only at hW); go_simp <;> with_reducible rfl
      simp only [Act.put, List.setIfInBounds_toArray, List.set_cons_zero, List.set_cons_succ]
      refine hTake (i := 7) (v := ?_) rfl (by kernel_rfl) (by kernel_rfl) (by kernel_rfl) (by rfl) ?_ hH ?_
      rotate_left
      · intro W hW; (try dsimp only at hW); go_simp <;> with_reducible rfl
      simp only [Act.put, List.setIfInBounds_toArray, List.set_cons_zero, List.set_cons_succ]
      refine hTake (i := 8) (v := ?_) rfl (by kernel_rfl) (by kernel_rfl) (by kernel_rfl) (by rfl) ?_ hH ?_
      rotate_left
      · intro W hW; (try dsimp only at hW); go_simp <;> with_reducible rfl
      simp only [Act.put, List.setIfInBounds_toArray, List.set_cons_zero, List.set_cons_succ]
      refine hTake (i := 9) (v := ?_) rfl (by kernel_rfl) (by kernel_rfl) (by kernel_rfl) (by rfl) ?_ hH ?_
      rotate_left
      · intro W hW; (try dsimp only at hW); go_simp <;> with_reducible rfl
      simp only [Act.put, List.setIfInBounds_toArray, List.set_cons_zero, List.set_cons_succ]
      refine hTake (i := 10) (v := ?_) rfl (by kernel_rfl) (by kernel_rfl) (by kernel_rfl) (by rfl) ?_ hH ?_
      rotate_left
      · intro W hW; (try dsimp only at hW); go_simp <;> with_reducible rfl
      simp only [Act.put, List.setIfInBounds_toArray, List.set_cons_zero, List.set_cons_succ]
      refine wpAnyH_ready (rs := [5]) (by kernel_rfl) (by simp) ?_
      refine AllReadyH.cons rfl (fun K hK => ?_) AllReadyH.nil
      go_simp
      refine (l2Pack_any (d0) (d1 * 256 + d2) (d3) (d4 % 2 == 1) (d5 * 256 + d6) (d4 / 2 % 2 == 1) (d7 * 256 + d8) _ fit).mono ?_
      rw [HLn.out]
      rintro e w2 ⟨g, cp, rfl, own, b2⟩
      have b2 := hH.2.2.2.2.2.2.2.2.trans (b2.mono b1.size)
      have hcv := conv_any (w := w2) (a := some ⟨g, 0, none⟩) (n := 11) (zs := Ch.Rec.bytes ⟨d0, d1 * 256 + d2, d3, d4 % 2 == 1, d5 * 256 + d6, d4 / 2 % 2 == 1, d7 * 256 + d8⟩) (by simpa using owns_cells own) cp
      go_wp2_with fail
      refine hK.out _ _ ?_ (fun hH => ?_)
      · exact HS.out _ b2
      clear hK K
      refine wpAnyH_ready (rs := [6]) (by kernel_rfl) (by simp) ?_
      refine AllReadyH.cons rfl (fun K hK => ?_) AllReadyH.nil
      go_simp
      refine hK.out _ _ ?_ (fun hH => ?_)
      · exact hH
      clear hK K
      refine hTake (i := 11) (v := ?_) rfl (by kernel_rfl) (by kernel_rfl) (by kernel_rfl) (by rfl) ?_ hH ?_
      rotate_left
      · intro W hW; (try dsimp only at hW); go_simp <;> with_reducible rfl
      simp only [Act.put, List.setIfInBounds_toArray, List.set_cons_zero, List.set_cons_succ]
      refine hTake (i := 12) (v := ?_) rfl (by kernel_rfl) (by kernel_rfl) (by kernel_rfl) (by rfl) ?_ hH ?_
      rotate_left
      · intro W hW; (try dsimp only at hW); go_simp <;> with_reducible rfl
      simp only [Act.put, List.setIfInBounds_toArray, List.set_cons_zero, List.set_cons_succ]
      refine wpAnyH_done (by kernel_rfl) ?_ _
      refine NoPanic.normal ?_
      clear hcv E0 HLn
      have zc := b2.size
      have x0 := keep_cell b2 x0
      have x1 := keep_cell b2 x1
      have x2 := keep_cell b2 x2
      have x3 := keep_cell b2 x3
      have x4 := keep_cell b2 x4
      have x5 := keep_cell b2 x5
      have x6 := keep_cell b2 x6
      have bF := hB.trans (b2.mono (by omega))
      have bF' : Below (w.alloc (.cells #[.int .i64 0, .int .i64 0, .int .i64 0, .bool false, .int .i64 0, .bool false, .int .i64 0] 54)).heap.size (w.alloc (.cells #[.int .i64 0, .int .i64 0, .int .i64 0, .bool false, .int .i64 0, .bool false, .int .i64 0] 54)) w2 := by simpa using bF
      obtain ⟨y0, y1, y2, y3, y4, y5, y6⟩ := box7 bF'
      have g0 := bF.frozen (p := ⟨w.heap.size, 0, none⟩) (by simp)
      have g1 := bF.frozen (p := ⟨w.heap.size, 1, none⟩) (by simp)
      have g2 := bF.frozen (p := ⟨w.heap.size, 2, none⟩) (by simp)
      have g3 := bF.frozen (p := ⟨w.heap.size, 3, none⟩) (by simp)
      have g4 := bF.frozen (p := ⟨w.heap.size, 4, none⟩) (by simp)
      have g5 := bF.frozen (p := ⟨w.heap.size, 5, none⟩) (by simp)
      have g6 := bF.frozen (p := ⟨w.heap.size, 6, none⟩) (by simp)
      simp [go_sem] at g0 g1 g2 g3 g4 g5 g6
      have bE := below_boxS bF
      have zE := lt_of_cell y0
      clear bF bF'
      go_wp2_with fail
      rw [HV.out]
      refine bodyPost_ret (v := .tuple #[.agg #[.int .i64 (d0), .int .i64 (d1 * 256 + d2), .int .i64 (d3), .bool (d4 % 2 == 1), .int .i64 (d5 * 256 + d6), .bool (d4 / 2 % 2 == 1), .int .i64 (d7 * 256 + d8)], .int .i64 11]) (by simp [results, Tryz.results26, go_sem, zE, y0, y1, y2, y3, y4, y5, y6]) rfl ⟨rfl, ?_⟩
      repeat (first | with_reducible exact bE | with_reducible refine Below.drew ?_ | with_reducible refine Below.alloc ?_ (by first | omega | (simp; done) | (simp; omega)) _ | with_reducible refine Below.setCell ?_ (by simp) _)
    · rw [HP.out, decide_eq_false hp] at E0
      have HV : Hid (Ch.firstV zs = (Ch.Rec.zero, 0)) := Ch.firstV_none (by rw [HU.out]; exact fun hh => hp hh.2)
      clear hp HP
      have HS : Hid (∀ W', Below wc.heap.size wc W' → W'.cell? ⟨w.heap.size + 1, 0, none⟩ = some (.int .i64 (d0)) ∧ W'.cell? ⟨w.heap.size + 1, 1, none⟩ = some (.int .i64 (d1 * 256 + d2)) ∧ W'.cell? ⟨w.heap.size + 1, 2, none⟩ = some (.int .i64 (d3)) ∧ W'.cell? ⟨w.heap.size + 1, 3, none⟩ = some (.bool (d4 % 2 == 1)) ∧ W'.cell? ⟨w.heap.size + 1, 4, none⟩ = some (.int .i64 (d5 * 256 + d6)) ∧ W'.cell? ⟨w.heap.size + 1, 5, none⟩ = some (.bool (d4 / 2 % 2 == 1)) ∧ W'.cell? ⟨w.heap.size + 1, 6, none⟩ = some (.int .i64 (d7 * 256 + d8)) ∧ (convert 23 9 (.slice (some ⟨b, off, none⟩) 11 cap)).run Tryz.prog W' = .ok (.string (strOfNums (zs.take 11))) W' ∧ Below wc.heap.size wc W') := fun W' hb' => ⟨keep_cell hb' x0, keep_cell hb' x1, keep_cell hb' x2, keep_cell hb' x3, keep_cell hb' x4, keep_cell hb' x5, keep_cell hb' x6, conv_any ((h.take (m := 11) (by omega)).below ((below_boxS hB).trans (hb'.mono (below_boxS hB).size))) cap, hb'⟩
      refine wp_region_noPanic ?_
      refine wp_region_held_drew (S := fun W' => W'.cell? ⟨w.heap.size + 1, 0, none⟩ = some (.int .i64 (d0)) ∧ W'.cell? ⟨w.heap.size + 1, 1, none⟩ = some (.int .i64 (d1 * 256 + d2)) ∧ W'.cell? ⟨w.heap.size + 1, 2, none⟩ = some (.int .i64 (d3)) ∧ W'.cell? ⟨w.heap.size + 1, 3, none⟩ = some (.bool (d4 % 2 == 1)) ∧ W'.cell? ⟨w.heap.size + 1, 4, none⟩ = some (.int .i64 (d5 * 256 + d6)) ∧ W'.cell? ⟨w.heap.size + 1, 5, none⟩ = some (.bool (d4 / 2 % 2 == 1)) ∧ W'.cell? ⟨w.heap.size + 1, 6, none⟩ = some (.int .i64 (d7 * 256 + d8)) ∧ (convert 23 9 (.slice (some ⟨b, off, none⟩) 11 cap)).run Tryz.prog W' = .ok (.string (strOfNums (zs.take 11))) W' ∧ Below wc.heap.size wc W') (by kernel_rfl) (HS.out _ (Below.refl _ _).drew) (fun hH => ?_)
      refine hTake (i := 0) (v := ?_) rfl (by kernel_rfl) (by kernel_rfl) (by kernel_rfl) (by rfl) ?_ hH ?_
      rotate_left
      · intro W hW; (try dsimp only at hW); go_simp <;> with_reducible rfl
      simp only [Act.put, List.setIfInBounds_toArray, List.set_cons_zero, List.set_cons_succ]
      refine wpAnyH_ready (rs := [1]) (by kernel_rfl) (by simp) ?_
      refine AllReadyH.cons rfl (fun K hK => ?_) AllReadyH.nil
      go_simp
      refine (specRec_any (d0) (d1 * 256 + d2) (d3) (d4 % 2 == 1) (d5 * 256 + d6) (d4 / 2 % 2 == 1) (d7 * 256 + d8) _).mono ?_
      rintro e w1 ⟨rfl, b1⟩
      rw [HF.out]
      have b1 := hH.2.2.2.2.2.2.2.2.trans (b1.mono (by simp))
      go_wp2_with fail
      refine hK.out _ _ ?_ (fun hH => ?_)
      · exact HS.out _ b1
      clear hK K
      refine hTake (i := 2) (v := ?_) rfl (by kernel_rfl) (by kernel_rfl) (by kernel_rfl) (by rfl) ?_ hH ?_
      rotate_left
      · intro W hW; (try dsimp only at hW); go_simp <;> with_reducible rfl
      simp only [Act.put, List.setIfInBounds_toArray, List.set_cons_zero, List.set_cons_succ]
      refine hTake (i := 3) (v := ?_) rfl (by kernel_rfl) (by kernel_rfl) (by kernel_rfl) (by rfl) ?_ hH ?_
      rotate_left
      · intro W hW; (try dsimp only at hW); go_simp <;> with_reducible rfl
      simp only [Act.put, List.setIfInBounds_toArray, List.set_cons_zero, List.set_cons_succ]
      refine hTake (i := 4) (v := ?_) rfl (by kernel_rfl) (by kernel_rfl) (by kernel_rfl) (by rfl) ?_ hH ?_
      rotate_left
      · intro W hW; (try dsimp only at hW); go_simp <;> with_reducible rfl
      simp only [Act.put, List.setIfInBounds_toArray, List.set_cons_zero, List.set_cons_succ]
      refine hTake (i := 7) (v := ?_) rfl (by kernel_rfl) (by kernel_rfl) (by kernel_rfl) (by rfl) ?_ hH ?_
      rotate_left
      · intro W hW; (try dsimp only at hW); go_simp <;> with_reducible rfl
      simp only [Act.put, List.setIfInBounds_toArray, List.set_cons_zero, List.set_cons_succ]
      refine hTake (i := 8) (v := ?_) rfl (by kernel_rfl) (by kernel_rfl) (by kernel_rfl) (by rfl) ?_ hH ?_
      rotate_left
      · intro W hW; (try dsimp only at hW); go_simp <;> with_reducible rfl
      simp only [Act.put, List.setIfInBounds_toArray, List.set_cons_zero, List.set_cons_succ]
      refine hTake (i := 9) (v := ?_) rfl (by kernel_rfl) (by kernel_rfl) (by kernel_rfl) (by rfl) ?_ hH ?_
      rotate_left
      · intro W hW; (try dsimp only at hW); go_simp <;> with_reducible rfl
      simp only [Act.put, List.setIfInBounds_toArray, List.set_cons_zero, List.set_cons_succ]
      refine hTake (i := 10) (v := ?_) rfl (by kernel_rfl) (by kernel_rfl) (by kernel_rfl) (by rfl) ?_ hH ?_
      rotate_left
      · intro W hW; (try dsimp only at hW); go_simp <;> with_reducible rfl
      simp only [Act.put, List.setIfInBounds_toArray, List.set_cons_zero, List.set_cons_succ]
      refine wpAnyH_ready (rs := [5]) (by kernel_rfl) (by simp) ?_
      refine AllReadyH.cons rfl (fun K hK => ?_) AllReadyH.nil
      go_simp
      refine (l2Pack_any (d0) (d1 * 256 + d2) (d3) (d4 % 2 == 1) (d5 * 256 + d6) (d4 / 2 % 2 == 1) (d7 * 256 + d8) _ fit).mono ?_
      rw [HLn.out]
      rintro e w2 ⟨g, cp, rfl, own, b2⟩
      have b2 := hH.2.2.2.2.2.2.2.2.trans (b2.mono b1.size)
      have hcv := conv_any (w := w2) (a := some ⟨g, 0, none⟩) (n := 11) (zs := Ch.Rec.bytes ⟨d0, d1 * 256 + d2, d3, d4 % 2 == 1, d5 * 256 + d6, d4 / 2 % 2 == 1, d7 * 256 + d8⟩) (by simpa using owns_cells own) cp
      go_wp2_with fail
      refine hK.out _ _ ?_ (fun hH => ?_)
      · exact HS.out _ b2
      clear hK K
      refine wpAnyH_ready (rs := [6]) (by kernel_rfl) (by simp) ?_
      refine AllReadyH.cons rfl (fun K hK => ?_) AllReadyH.nil
      go_simp
      refine hK.out _ _ ?_ (fun hH => ?_)
      · exact hH
      clear hK K
      refine hTake (i := 11) (v := ?_) rfl (by kernel_rfl) (by kernel_rfl) (by kernel_rfl) (by rfl) ?_ hH ?_
      rotate_left
      · intro W hW; (try dsimp only at hW); go_simp <;> with_reducible rfl
      simp only [Act.put, List.setIfInBounds_toArray, List.set_cons_zero, List.set_cons_succ]
      refine hTake (i := 12) (v := ?_) rfl (by kernel_rfl) (by kernel_rfl) (by kernel_rfl) (by rfl) ?_ hH ?_
      rotate_left
      · intro W hW; (try dsimp only at hW); go_simp <;> with_reducible rfl
      simp only [Act.put, List.setIfInBounds_toArray, List.set_cons_zero, List.set_cons_succ]
      refine wpAnyH_done (by kernel_rfl) ?_ _
      refine NoPanic.normal ?_
      clear hcv E0 HLn
      have zc := b2.size
      have x0 := keep_cell b2 x0
      have x1 := keep_cell b2 x1
      have x2 := keep_cell b2 x2
      have x3 := keep_cell b2 x3
      have x4 := keep_cell b2 x4
      have x5 := keep_cell b2 x5
      have x6 := keep_cell b2 x6
      have bF := hB.trans (b2.mono (by omega))
      have bF' : Below (w.alloc (.cells #[.int .i64 0, .int .i64 0, .int .i64 0, .bool false, .int .i64 0, .bool false, .int .i64 0] 54)).heap.size (w.alloc (.cells #[.int .i64 0, .int .i64 0, .int .i64 0, .bool false, .int .i64 0, .bool false, .int .i64 0] 54)) w2 := by simpa using bF
      obtain ⟨y0, y1, y2, y3, y4, y5, y6⟩ := box7 bF'
      have g0 := bF.frozen (p := ⟨w.heap.size, 0, none⟩) (by simp)
      have g1 := bF.frozen (p := ⟨w.heap.size, 1, none⟩) (by simp)
      have g2 := bF.frozen (p := ⟨w.heap.size, 2, none⟩) (by simp)
      have g3 := bF.frozen (p := ⟨w.heap.size, 3, none⟩) (by simp)
      have g4 := bF.frozen (p := ⟨w.heap.size, 4, none⟩) (by simp)
      have g5 := bF.frozen (p := ⟨w.heap.size, 5, none⟩) (by simp)
      have g6 := bF.frozen (p := ⟨w.heap.size, 6, none⟩) (by simp)
      simp [go_sem] at g0 g1 g2 g3 g4 g5 g6
      have bE := below_boxS bF
      have zE := lt_of_cell y0
      clear bF bF'
      go_wp2_with fail
      rw [HV.out]
      refine bodyPost_ret (v := .tuple #[.agg #[.int .i64 0, .int .i64 0, .int .i64 0, .bool false, .int .i64 0, .bool false, .int .i64 0], .int .i64 0]) (by simp [results, Tryz.results26, go_sem, zE, y0, y1, y2, y3, y4, y5, y6]) rfl ⟨rfl, ?_⟩
      repeat (first | with_reducible exact bE | with_reducible refine Below.drew ?_ | with_reducible refine Below.alloc ?_ (by first | omega | (simp; done) | (simp; omega)) _ | with_reducible refine Below.setCell ?_ (by simp) _)
  · have HV : Hid (Ch.firstV zs = (Ch.Rec.zero, 0)) := Ch.firstV_none (by rw [HU.out]; exact fun hh => hf hh.1)
    obtain ⟨fc, hfc⟩ : ∃ fc, fc = Ch.Rec.fault ⟨d0, d1 * 256 + d2, d3, d4 % 2 == 1, d5 * 256 + d6, d4 / 2 % 2 == 1, d7 * 256 + d8⟩ := ⟨_, rfl⟩
    rw [← hfc] at hf
    have HF : Hid (Ch.Rec.fault ⟨d0, d1 * 256 + d2, d3, d4 % 2 == 1, d5 * 256 + d6, d4 / 2 % 2 == 1, d7 * 256 + d8⟩ = fc) := hfc.symm
    have hc : (fc != 0) = true := by simpa using hf
    clear hfc hf
    have HS : Hid (∀ W', Below wc.heap.size wc W' → W'.cell? ⟨w.heap.size + 1, 0, none⟩ = some (.int .i64 (d0)) ∧ W'.cell? ⟨w.heap.size + 1, 1, none⟩ = some (.int .i64 (d1 * 256 + d2)) ∧ W'.cell? ⟨w.heap.size + 1, 2, none⟩ = some (.int .i64 (d3)) ∧ W'.cell? ⟨w.heap.size + 1, 3, none⟩ = some (.bool (d4 % 2 == 1)) ∧ W'.cell? ⟨w.heap.size + 1, 4, none⟩ = some (.int .i64 (d5 * 256 + d6)) ∧ W'.cell? ⟨w.heap.size + 1, 5, none⟩ = some (.bool (d4 / 2 % 2 == 1)) ∧ W'.cell? ⟨w.heap.size + 1, 6, none⟩ = some (.int .i64 (d7 * 256 + d8)) ∧ (convert 23 9 (.slice (some ⟨b, off, none⟩) 11 cap)).run Tryz.prog W' = .ok (.string (strOfNums (zs.take 11))) W' ∧ Below wc.heap.size wc W') := fun W' hb' => ⟨keep_cell hb' x0, keep_cell hb' x1, keep_cell hb' x2, keep_cell hb' x3, keep_cell hb' x4, keep_cell hb' x5, keep_cell hb' x6, conv_any ((h.take (m := 11) (by omega)).below ((below_boxS hB).trans (hb'.mono (below_boxS hB).size))) cap, hb'⟩
    refine wp_region_noPanic ?_
    refine wp_region_held_drew (S := fun W' => W'.cell? ⟨w.heap.size + 1, 0, none⟩ = some (.int .i64 (d0)) ∧ W'.cell? ⟨w.heap.size + 1, 1, none⟩ = some (.int .i64 (d1 * 256 + d2)) ∧ W'.cell? ⟨w.heap.size + 1, 2, none⟩ = some (.int .i64 (d3)) ∧ W'.cell? ⟨w.heap.size + 1, 3, none⟩ = some (.bool (d4 % 2 == 1)) ∧ W'.cell? ⟨w.heap.size + 1, 4, none⟩ = some (.int .i64 (d5 * 256 + d6)) ∧ W'.cell? ⟨w.heap.size + 1, 5, none⟩ = some (.bool (d4 / 2 % 2 == 1)) ∧ W'.cell? ⟨w.heap.size + 1, 6, none⟩ = some (.int .i64 (d7 * 256 + d8)) ∧ (convert 23 9 (.slice (some ⟨b, off, none⟩) 11 cap)).run Tryz.prog W' = .ok (.string (strOfNums (zs.take 11))) W' ∧ Below wc.heap.size wc W') (by kernel_rfl) (HS.out _ (Below.refl _ _).drew) (fun hH => ?_)
    refine hTake (i := 0) (v := ?_) rfl (by kernel_rfl) (by kernel_rfl) (by kernel_rfl) (by rfl) ?_ hH ?_
    rotate_left
    · intro W hW; (try dsimp only at hW); go_simp <;> with_reducible rfl
    simp only [Act.put, List.setIfInBounds_toArray, List.set_cons_zero, List.set_cons_succ]
    refine wpAnyH_ready (rs := [1]) (by kernel_rfl) (by simp) ?_
    refine AllReadyH.cons rfl (fun K hK => ?_) AllReadyH.nil
    go_simp
    refine (specRec_any (d0) (d1 * 256 + d2) (d3) (d4 % 2 == 1) (d5 * 256 + d6) (d4 / 2 % 2 == 1) (d7 * 256 + d8) _).mono ?_
    rintro e w1 ⟨rfl, b1⟩
    rw [HF.out]
    have b1 := hH.2.2.2.2.2.2.2.2.trans (b1.mono (by simp))
    go_wp2_with fail
    refine hK.out _ _ ?_ (fun hH => ?_)
    · exact HS.out _ b1
    clear hK K
    refine hTake (i := 2) (v := ?_) rfl (by kernel_rfl) (by kernel_rfl) (by kernel_rfl) (by rfl) ?_ hH ?_
    rotate_left
    · intro W hW; (try dsimp only at hW); go_simp <;> with_reducible rfl
    simp only [Act.put, List.setIfInBounds_toArray, List.set_cons_zero, List.set_cons_succ]
    refine hTake (i := 3) (v := ?_) rfl (by kernel_rfl) (by kernel_rfl) (by kernel_rfl) (by rfl) ?_ hH ?_
    rotate_left
    · intro W hW; (try dsimp only at hW); go_simp <;> with_reducible rfl
    simp only [Act.put, List.setIfInBounds_toArray, List.set_cons_zero, List.set_cons_succ]
    refine hSkip (i := 4) rfl (by kernel_rfl) (by kernel_rfl) (by kernel_rfl) (by rfl) hH ?_
    simp only [Act.put, List.setIfInBounds_toArray, List.set_cons_zero, List.set_cons_succ]
    refine hSkip (i := 5) rfl (by kernel_rfl) (by kernel_rfl) (by kernel_rfl) (by rfl) hH ?_
    simp only [Act.put, List.setIfInBounds_toArray, List.set_cons_zero, List.set_cons_succ]
    refine hSkip (i := 6) rfl (by kernel_rfl) (by kernel_rfl) (by kernel_rfl) (by rfl) hH ?_
    simp only [Act.put, List.setIfInBounds_toArray, List.set_cons_zero, List.set_cons_succ]
    refine hSkip (i := 7) rfl (by kernel_rfl) (by kernel_rfl) (by kernel_rfl) (by rfl) hH ?_
    simp only [Act.put, List.setIfInBounds_toArray, List.set_cons_zero, List.set_cons_succ]
    refine hSkip (i := 8) rfl (by kernel_rfl) (by kernel_rfl) (by kernel_rfl) (by rfl) hH ?_
    simp only [Act.put, List.setIfInBounds_toArray, List.set_cons_zero, List.set_cons_succ]
    refine hSkip (i := 9) rfl (by kernel_rfl) (by kernel_rfl) (by kernel_rfl) (by rfl) hH ?_
    simp only [Act.put, List.setIfInBounds_toArray, List.set_cons_zero, List.set_cons_succ]
    refine hSkip (i := 10) rfl (by kernel_rfl) (by kernel_rfl) (by kernel_rfl) (by rfl) hH ?_
    simp only [Act.put, List.setIfInBounds_toArray, List.set_cons_zero, List.set_cons_succ]
    refine hSkip (i := 11) rfl (by kernel_rfl) (by kernel_rfl) (by kernel_rfl) (by rfl) hH ?_
    simp only [Act.put, List.setIfInBounds_toArray, List.set_cons_zero, List.set_cons_succ]
    refine hTake (i := 12) (v := ?_) rfl (by kernel_rfl) (by kernel_rfl) (by kernel_rfl) (by rfl) ?_ hH ?_
    rotate_left
    · intro W hW; (try dsimp only at hW); go_simp <;> with_reducible rfl
    simp only [Act.put, List.setIfInBounds_toArray, List.set_cons_zero, List.set_cons_succ]
    refine wpAnyH_done (by kernel_rfl) ?_ _
    refine NoPanic.normal ?_
    clear HLn
    have zc := b1.size
    have bF := hB.trans (b1.mono (by omega))
    have bF' : Below (w.alloc (.cells #[.int .i64 0, .int .i64 0, .int .i64 0, .bool false, .int .i64 0, .bool false, .int .i64 0] 54)).heap.size (w.alloc (.cells #[.int .i64 0, .int .i64 0, .int .i64 0, .bool false, .int .i64 0, .bool false, .int .i64 0] 54)) w1 := by simpa using bF
    obtain ⟨y0, y1, y2, y3, y4, y5, y6⟩ := box7 bF'
    have g0 := bF.frozen (p := ⟨w.heap.size, 0, none⟩) (by simp)
    have g1 := bF.frozen (p := ⟨w.heap.size, 1, none⟩) (by simp)
    have g2 := bF.frozen (p := ⟨w.heap.size, 2, none⟩) (by simp)
    have g3 := bF.frozen (p := ⟨w.heap.size, 3, none⟩) (by simp)
    have g4 := bF.frozen (p := ⟨w.heap.size, 4, none⟩) (by simp)
    have g5 := bF.frozen (p := ⟨w.heap.size, 5, none⟩) (by simp)
    have g6 := bF.frozen (p := ⟨w.heap.size, 6, none⟩) (by simp)
    simp [go_sem] at g0 g1 g2 g3 g4 g5 g6
    have bE := below_boxS bF
    have zE := lt_of_cell y0
    clear bF bF'
    go_wp2_with fail
    rw [HV.out]
    refine bodyPost_ret (v := .tuple #[.agg #[.int .i64 0, .int .i64 0, .int .i64 0, .bool false, .int .i64 0, .bool false, .int .i64 0], .int .i64 0]) (by simp [results, Tryz.results26, go_sem, zE, y0, y1, y2, y3, y4, y5, y6]) rfl ⟨rfl, ?_⟩
    repeat (first | with_reducible exact bE | with_reducible refine Below.drew ?_ | with_reducible refine Below.alloc ?_ (by first | omega | (simp; done) | (simp; omega)) _ | with_reducible refine Below.setCell ?_ (by simp) _)

theorem l2One_any (a : Option Addr) (n cap : Nat) (zs : List Int) (w : World) (h : CellsAt w a n (bts zs)) (hb : IsB zs) (hn : n ≤ 1048576) (hcap : n ≤ cap) :
    Calls Tryz.prog 26 #[.slice a n cap] w fun e w' => e = .returned (.tuple #[recV (Ch.firstV zs).1, .int .i64 (Ch.firstV zs).2]) ∧ Below w.heap.size w w' := by
  by_cases h5 : n < 5
  · exact l2One_short a n cap zs w h h5
  obtain ⟨b, off, rfl, _⟩ := h.2 (by omega)
  cases hset : Ch.sets (zs.getD 0 0)
  · exact l2One_plain b off n cap zs w h hb hn hcap (by omega) hset
  by_cases h11 : n < 11
  · exact l2One_few b off n cap zs w h hb hn hcap (by omega) h11 hset
  · exact l2One_full b off n cap zs w h hb hn hcap (by omega) hset
end Go.Proofs.YtoijjjckdggglaaGreat


/- Records read one behind the other: what both readers lean on; the model's reader. -/
namespace Go.Proofs.YtoijjjckdggglaaGreat
open Go.RowKit

theorem Tryz.info54 : (Tryz.prog.info? 54).map (fun i => (i.zero, i.size, i.bytes)) = some (some (.agg #[.int .i64 0, .int .i64 0, .int .i64 0, .bool false, .int .i64 0, .bool false, .int .i64 0]), 7, 56) := by kernel_rfl

theorem recV_eq (r : Ch.Rec) : recV r = .agg (c7 r).toArray := rfl

/-- The address behind k bytes. -/
def cutAt (a : Option Addr) (cap k : Nat) : Option Addr := if cap = k then a else a.map (·.add k)
theorem slice_from (a : Option Addr) (n cap k : Nat) (hk : k ≤ n) (w : World) :
    (Instr.slice 23 (.slice a n cap) (some (.int .i64 (k : Int))) none none).run Tryz.prog w = .ok (.slice (cutAt a cap k) (n - k) (cap - k)) w := by
  have h0 : (0 : Int) ≤ (k : Int) := by omega
  have h1 : (k : Int) ≤ (n : Int) := by omega
  have hu : Tryz.prog.underlying 23 = some (.slice (Tryz.prog.elem 23)) := by kernel_rfl
  have he : Tryz.prog.elem 23 = 5 := by kernel_rfl
  have hs := Tryz.sizeOf5
  rw [← he] at hs
  unfold cutAt
  rw [run_slice_l (ht := hu) (h0 := h0) (h1 := h1), hs]
  simp [Result.andThen, sliced]
theorem CellsAt.drop {w : World} {a : Option Addr} {n cap k : Nat} {zs : List Int} (h : CellsAt w a n (bts zs)) (hk : k ≤ n) (hcap : n ≤ cap) : CellsAt w (cutAt a cap k) (n - k) (bts (zs.drop k)) := by
  have hl := h.len.out
  refine ⟨by simp [bts]; omega, fun h0 => ?_⟩
  obtain ⟨b, off, rfl, hc⟩ := h.2 (by omega)
  refine ⟨b, off + k, ?_, fun i hi => ?_⟩
  · unfold cutAt
    rw [if_neg (by omega)]
    simp only [Option.map_some, Option.some.injEq]
    unfold Addr.add
    split
    · next h0 => subst h0; rfl
    · rfl
  · rw [Nat.add_assoc, hc (k + i) (by omega)]
    simp [bts, List.getElem?_drop]

theorem wpList_app7 {ops : Array Oper} {rest : List Oper} {o : Oper} {a : Act} {w : World} {Q : Exit → Act → World → Prop} (s x : Operand)
    (B : Nat) (v : Value) (n : Nat) (rs : List Ch.Rec) (r : Ch.Rec) (hn : n ≤ 1048576)
    (ho : o.op = .call { callee := .builtin .append, args := #[s, x], argTypes := #[39, 39] }) (hgd : o.guard = none)
    (hs : a.eval s = v) (hx : ∃ h c t, a.eval x = .slice (some ⟨h, 0, none⟩) 1 c ∧ w.heap[h]? = some (.cells (c7 r).toArray t (0, 0)))
    (hown : w.ownsRow B 54 7 v n (rc7 rs)) (hbase : B ≤ w.heap.size)
    (hK : ∀ g' cp' w', w'.ownsRow B 54 7 (.slice (some ⟨g', 0, none⟩) (n + 1) cp') (n + 1) (rc7 (rs ++ [r])) → Below B w w' → wpList Tryz.prog ops Q rest (a.put o.dst (.slice (some ⟨g', 0, none⟩) (n + 1) cp')) w') :
    wpList Tryz.prog ops Q (o :: rest) a w := by
  obtain ⟨h, c, t, hx, hblk⟩ := hx
  obtain ⟨i0, hi, hz0, hz1, hz2⟩ := info_parts Tryz.info54
  refine wpList_append_lies _ hgd s x 39 ho B 54 i0 _ 7 56 Tryz.underlying39 hi hz0 hz1 hz2 rfl (by omega) v n (rc7 rs) hs hown ⟨h, 0, none⟩ 1 c (c7 r) hx rfl (World.news_of_block hblk) (by simp [c7, Value.oneCell']) (by omega) (by unfold maxLen; omega) (by omega) hbase _ rfl ?_
  intro g' cp' w' hown' hgrow hat hlt
  rw [← rc7_snoc] at hown'
  refine hK g' cp' w' hown' ((Below.refl _ _).grown hgrow hbase (fun k hk => ?_))
  rcases hown.2 with ⟨hv, _⟩ | ⟨g, cap', cur, hv, hb, _⟩
  · subst hv; simp [Value.ownBlock] at hk
  · subst hv; simp [Value.ownBlock] at hk; omega

theorem Ch.firstV_cases (zs : List Int) : (Ch.first zs = none ∧ Ch.firstV zs = (Ch.Rec.zero, 0)) ∨ (∃ r, Ch.first zs = some r ∧ Ch.firstV zs = (r, r.len)) := by
  unfold Ch.firstV
  cases h : Ch.first zs with
  | none => exact .inl ⟨rfl, rfl⟩
  | some r => exact .inr ⟨r, rfl, rfl⟩

set_option maxRecDepth 10000 in
set_option maxHeartbeats 2000000 in
theorem l2Read_any (a : Option Addr) (n cap : Nat) (zs : List Int) (w : World) (h : CellsAt w a n (bts zs)) (hb : IsB zs) (hn : n ≤ 1048576) (hcap : n ≤ cap) :
    Calls Tryz.prog 16 #[.slice a n cap] w fun e w' => ∃ g c, e = .returned (.tuple #[.slice (some ⟨g, 0, none⟩) (Ch.reads zs).length c, .int .i64 (Ch.used zs)]) ∧ w'.ownsRow w.heap.size 54 7 (.slice (some ⟨g, 0, none⟩) (Ch.reads zs).length c) (Ch.reads zs).length (rc7 (Ch.reads zs)) ∧ Below w.heap.size w w' := by
  have HL := h.len
  go_enter Tryz.func16, Tryz.ntmps16
  go_wp2
  go_loopw [4, 5] (fun v i wr => ∃ (pre : List Ch.Rec) (k m g c : Nat), i = .int .i64 (k : Int) ∧ v = .slice (some ⟨g, 0, none⟩) m c ∧ Hid (m = pre.length ∧ k ≤ n ∧ Ch.reads zs = pre ++ Ch.reads (zs.drop k) ∧ Ch.lenOf pre = k) ∧ wr.ownsRow w.heap.size 54 7 (.slice (some ⟨g, 0, none⟩) m c) m (rc7 pre) ∧ Below w.heap.size w wr) (fun _ i _ => n - (intOf i).toNat)
  case atStart =>
    refine ⟨[], 0, 0, w.heap.size, 0, rfl, rfl, ⟨rfl, Nat.zero_le _, rfl, rfl⟩, ?_, (Below.refl _ _).alloc (Nat.le_refl _) _⟩
    exact World.ownsRow_lit w #[] 0 (Nat.le_refl _) (by unfold maxLen; omega) rfl
  case round =>
    obtain ⟨pre, k, m, g, c, rfl, rfl, HI, own, hB⟩ := hrel
    have hk : Hid (k ≤ n) := HI.out.2.1
    have hsl := fun W => slice_from a n cap k hk.out W
    have hone := l2One_any (cutAt a cap k) (n - k) (cap - k) (zs.drop k) wr ((h.below hB).drop hk.out hcap) (isB_drop hb k) (by omega) (by omega)
    generalize cutAt a cap k = a' at *
    go_wp2_with fail
    refine hone.mono ?_
    clear hone hsl
    rintro e w1 ⟨rfl, b1⟩
    have hz1 := b1.size
    have hB1 := hB.trans (b1.mono hB.size)
    have own1 := owns_below own b1
    have hzB := hB.size
    clear b1 own
    rcases Ch.firstV_cases (zs.drop k) with ⟨hf, he⟩ | ⟨r, hf, he⟩
    · rw [he]
      simp only [recV, Ch.Rec.zero]
      have HE : Hid (pre = Ch.reads zs ∧ Ch.used zs = k) := by
        have e1 := HI.out.2.2.1
        rw [Ch.reads_none hf, List.append_nil] at e1
        refine ⟨e1.symm, ?_⟩
        unfold Ch.used
        rw [e1]
        exact HI.out.2.2.2
      clear he hf
      go_wp2
      go_ret2
      obtain ⟨h1, h2⟩ := HE.out
      refine ⟨g, c, ?_, ?_, hB1.alloc (by omega) _⟩
      · rw [h2, ← h1, ← HI.out.1]
        rfl
      · rw [← h1, ← HI.out.1]
        exact own1.alloc _
    · have hl := Ch.first_len hf
      have hlk : Hid (k + r.len ≤ n) := by
        have := HL.out
        simp at hl
        show _ ≤ _
        have := hk.out
        omega
      have HN : Hid (Ch.reads zs = (pre ++ [r]) ++ Ch.reads (zs.drop (k + r.len)) ∧ Ch.lenOf (pre ++ [r]) = k + r.len) := by
        refine ⟨?_, ?_⟩
        · rw [HI.out.2.2.1, Ch.reads_some hf, List.drop_drop]
          simp
        · rw [Ch.lenOf_append, HI.out.2.2.2]
          rfl
      have hm : Hid (m ≤ 1048576) := by
        have e1 := HI.out.1
        have e2 := HI.out.2.2.2
        have e3 := hk.out
        have : 5 * pre.length ≤ Ch.lenOf pre := by
          generalize pre = rs
          induction rs with
          | nil => simp [Ch.lenOf]
          | cons q rs ih => rw [Ch.lenOf_cons]; have := q.len_bd; simp; omega
        show _ ≤ _
        omega
      rw [he]
      clear he hf
      have hr5 := r.len_bd
      obtain ⟨kd, tx, ky, hd, ol, hs, nw⟩ := r
      simp only [recV]
      generalize hlen : Ch.Rec.len ⟨kd, tx, ky, hd, ol, hs, nw⟩ = len at *
      have hne : ((len : Int) == 0) = false := by simp; omega
      have hlk1 := hlk.out
      go_wp2_with (at_builtin; go_must (refine wpList_app7 (.tmp 20) (.tmp 22) w.heap.size (.slice (some ⟨g, 0, none⟩) m c) m pre ⟨kd, tx, ky, hd, ol, hs, nw⟩ hm.out ?_ ?_ ?_ ?_ ?_ ?_ ?_; exact rfl; exact rfl; exact rfl; (refine ⟨_, _, 54, rfl, ?_⟩; refine heap_new' ?_; (focus (simp; done))); exact (own1.alloc _).alloc _; (focus (simp; omega)); intro g3 c3 w3 own3 b3))
      go_roundw
      case rel =>
        refine ⟨pre ++ [⟨kd, tx, ky, hd, ol, hs, nw⟩], k + len, m + 1, g3, c3, by go_num, rfl, ⟨by simp [HI.out.1], hlk1, HN.out.1, HN.out.2⟩, own3, ((hB1.alloc (by omega) _).alloc (by simp; omega) _).trans b3⟩
      case measure => simp [intOf]; omega
end Go.Proofs.YtoijjjckdggglaaGreat

