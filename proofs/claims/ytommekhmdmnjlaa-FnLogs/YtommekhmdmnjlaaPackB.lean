
/- Walks of a record's bytes: the program's. -/
import Derived.Test.YtommekhmdmnjlaaPackA
namespace Go.Proofs.Ytommekhmdmnjlaa
open Go.RowKit

theorem flags_any (kd tx ky : Int) (hd : Bool) (ol : Int) (hs : Bool) (nw : Int) (w : World) :
    Calls Try.prog 65 #[.agg #[.int .i64 kd, .int .i64 tx, .int .i64 ky, .bool hd, .int .i64 ol, .bool hs, .int .i64 nw]] w fun e w' => e = .returned (.int .u8 (Ch.Rec.flags ⟨kd, tx, ky, hd, ol, hs, nw⟩)) ∧ Below w.heap.size w w' := by
  have o1 : bits .or .u8 0 1 = 1 := by decide
  have o2 : bits .or .u8 0 2 = 2 := by decide
  have o3 : bits .or .u8 1 2 = 3 := by decide
  cases hd <;> cases hs
  all_goals
    go_enter Try.func65, Try.ntmps65
    go_wp2
    go_ret
    exact ⟨by simp [Ch.Rec.flags], (Below.refl _ _).alloc (Nat.le_refl _) _⟩

theorem below_boxT {w w1 : World} {o o' : Obj} (b : Below (w.heap.size + 2) ((w.alloc o).alloc o') w1) : Below (w.heap.size + 1) (w.alloc o) w1 :=
  ((Below.refl _ _).alloc (by simp) _).trans (b.mono (by simp))
theorem below_box2 {w w1 : World} {o o' : Obj} (b : Below ((w.alloc o).alloc o').heap.size ((w.alloc o).alloc o') w1) : Below (w.heap.size + 2) ((w.alloc o).alloc o') w1 := b.mono (by simp)
theorem box_at2 {w w1 : World} {o : Obj} {cs : Array Value} {t : TypeId} (b : Below (w.heap.size + 2) ((w.alloc o).alloc (.cells cs t)) w1) (i : Nat) : w1.cell? ⟨w.heap.size + 1, i, none⟩ = cs[i]? := by
  have := box_cell (w := w.alloc o) (by simpa using b) i
  simpa using this

set_option maxHeartbeats 400000 in
theorem implPackRec_no (kd tx ky : Int) (hd : Bool) (ol : Int) (hs : Bool) (nw : Int) (w : World) (c : Int) (h0 : Ch.Rec.fault ⟨kd, tx, ky, hd, ol, hs, nw⟩ = c) (hc : (c != 0) = true) :
    Calls Try.prog 43 #[.agg #[.int .i64 kd, .int .i64 tx, .int .i64 ky, .bool hd, .int .i64 ol, .bool hs, .int .i64 nw]] w fun e w' => e = .returned (.agg #[.int .i64 c, .slice none 0 0]) ∧ Below w.heap.size w w' := by
  go_enter Try.func43, Try.ntmps43
  go_wp2_with fail
  refine (implRec_any _ _ _ _ _ _ _ _).mono ?_
  rw [h0]
  rintro e w1 ⟨rfl, b1⟩
  have b1' := below_box2 b1
  have q0 := box_at2 b1' 0
  have q1 := box_at2 b1' 1
  have f0 := b1'.frozen (p := ⟨w.heap.size + 1, 0, none⟩) (by simp)
  have f1 := b1'.frozen (p := ⟨w.heap.size + 1, 1, none⟩) (by simp)
  simp [go_sem] at q0 q1 f0 f1
  go_wp2
  exact bodyPost_ret (v := .agg #[.int .i64 c, .slice none 0 0]) (by simp [results, Try.results43, go_sem, q0, q1]) rfl ⟨rfl, ((below_boxS (below_boxT b1')).setCell (p := ⟨w.heap.size + 1, 0, none⟩) (by simp) _).setCell (p := ⟨w.heap.size + 1, 1, none⟩) (by simp) _⟩

set_option linter.unusedSimpArgs false in
set_option maxHeartbeats 4000000 in
theorem implPackRec_ok (kd tx ky : Int) (hd : Bool) (ol : Int) (hs : Bool) (nw : Int) (w : World) (h0 : Ch.Rec.fault ⟨kd, tx, ky, hd, ol, hs, nw⟩ = 0) :
    Calls Try.prog 43 #[.agg #[.int .i64 kd, .int .i64 tx, .int .i64 ky, .bool hd, .int .i64 ol, .bool hs, .int .i64 nw]] w fun e w' => ∃ g cp, e = .returned (.agg #[.int .i64 0, .slice (some ⟨g, 0, none⟩) (Ch.Rec.len ⟨kd, tx, ky, hd, ol, hs, nw⟩) cp]) ∧ w'.ownsRow w.heap.size 5 1 (.slice (some ⟨g, 0, none⟩) (Ch.Rec.len ⟨kd, tx, ky, hd, ol, hs, nw⟩) cp) (Ch.Rec.len ⟨kd, tx, ky, hd, ol, hs, nw⟩) (bts (Ch.Rec.bytes ⟨kd, tx, ky, hd, ol, hs, nw⟩)) ∧ Below w.heap.size w w' := by
  have fit := Ch.Rec.fit h0
  have hbts := isB_of (Ch.Rec.body_bytes fit)
  obtain ⟨⟨k0, k1⟩, ⟨t0, t1⟩, ⟨y0, y1⟩, ⟨o0, o1⟩, ⟨n0, n1⟩, hrest⟩ := fit
  clear hrest
  simp only at k0 k1 t0 t1 y0 y1 o0 o1 n0 n1
  have hw0 : IntKind.u8.wrap kd = kd := by simp [IntKind.wrap_u8]; omega
  have hw1 : IntKind.u8.wrap ky = ky := by simp [IntKind.wrap_u8]; omega
  go_enter Try.func43, Try.ntmps43
  go_wp2_with fail
  refine (implRec_any _ _ _ _ _ _ _ _).mono ?_
  rw [h0]
  rintro e w1 ⟨rfl, b1⟩
  have z1 := b1.size
  simp at z1
  go_upto_region 4 with fail
  go_cut [4] (fun s wx => ∃ g c, s = .slice (some ⟨g, 0, none⟩) 3 c ∧ wx.ownsRow (w.heap.size + 2) 5 1 (.slice (some ⟨g, 0, none⟩) 3 c) 3 (bts [kd, tx / 256, tx % 256]) ∧ Below (w.heap.size + 2) ((w.alloc (recO kd tx ky hd ol hs nw)).alloc (.cells #[.int .i64 0, .slice none 0 0] 69)) wx)
  case first =>
    have HS : Hid (∀ W', Below (w.heap.size + 2) ((w.alloc (recO kd tx ky hd ol hs nw)).alloc (.cells #[.int .i64 0, .slice none 0 0] 69)) W' → W'.cell? ⟨w.heap.size, 0, none⟩ = some (.int .i64 kd) ∧ W'.cell? ⟨w.heap.size, 1, none⟩ = some (.int .i64 tx) ∧ W'.cell? ⟨w.heap.size, 2, none⟩ = some (.int .i64 ky) ∧ W'.cell? ⟨w.heap.size, 3, none⟩ = some (.bool hd) ∧ W'.cell? ⟨w.heap.size, 4, none⟩ = some (.int .i64 ol) ∧ W'.cell? ⟨w.heap.size, 5, none⟩ = some (.bool hs) ∧ W'.cell? ⟨w.heap.size, 6, none⟩ = some (.int .i64 nw) ∧ Below (w.heap.size + 2) ((w.alloc (recO kd tx ky hd ol hs nw)).alloc (.cells #[.int .i64 0, .slice none 0 0] 69)) W') := fun W' hb => ⟨by simpa using box_at (below_boxT hb) 0, by simpa using box_at (below_boxT hb) 1, by simpa using box_at (below_boxT hb) 2, by simpa using box_at (below_boxT hb) 3, by simpa using box_at (below_boxT hb) 4, by simpa using box_at (below_boxT hb) 5, by simpa using box_at (below_boxT hb) 6, hb⟩
    refine wp_region_noPanic ?_
    refine wp_region_held_drew (S := fun W' => W'.cell? ⟨w.heap.size, 0, none⟩ = some (.int .i64 kd) ∧ W'.cell? ⟨w.heap.size, 1, none⟩ = some (.int .i64 tx) ∧ W'.cell? ⟨w.heap.size, 2, none⟩ = some (.int .i64 ky) ∧ W'.cell? ⟨w.heap.size, 3, none⟩ = some (.bool hd) ∧ W'.cell? ⟨w.heap.size, 4, none⟩ = some (.int .i64 ol) ∧ W'.cell? ⟨w.heap.size, 5, none⟩ = some (.bool hs) ∧ W'.cell? ⟨w.heap.size, 6, none⟩ = some (.int .i64 nw) ∧ Below (w.heap.size + 2) ((w.alloc (recO kd tx ky hd ol hs nw)).alloc (.cells #[.int .i64 0, .slice none 0 0] 69)) W') (by kernel_rfl) (HS.out _ (below_box2 b1).drew) (fun hH => ?_)
    refine hTake (i := 0) (v := ?_) rfl (by kernel_rfl) (by kernel_rfl) (by kernel_rfl) (by rfl) ?_ hH ?_
    rotate_left
    · intro W hW; (try dsimp only at hW); go_simp <;> with_reducible rfl
    simp only [Act.put, List.setIfInBounds_toArray, List.set_cons_zero, List.set_cons_succ]
    refine hTake (i := 1) (v := ?_) rfl (by kernel_rfl) (by kernel_rfl) (by kernel_rfl) (by rfl) ?_ hH ?_
    rotate_left
    · intro W hW; (try dsimp only at hW); go_simp <;> with_reducible rfl
    simp only [Act.put, List.setIfInBounds_toArray, List.set_cons_zero, List.set_cons_succ]
    refine hTake (i := 2) (v := ?_) rfl (by kernel_rfl) (by kernel_rfl) (by kernel_rfl) (by rfl) ?_ hH ?_
    rotate_left
    · intro W hW; (try dsimp only at hW); go_simp <;> with_reducible rfl
    simp only [Act.put, List.setIfInBounds_toArray, List.set_cons_zero, List.set_cons_succ]
    refine hTake (i := 3) (v := ?_) rfl (by kernel_rfl) (by kernel_rfl) (by kernel_rfl) (by rfl) ?_ hH ?_
    rotate_left
    · intro W hW; (try dsimp only at hW); go_simp <;> with_reducible rfl
    simp only [Act.put, List.setIfInBounds_toArray, List.set_cons_zero, List.set_cons_succ]
    refine hTake (i := 4) (v := ?_) rfl (by kernel_rfl) (by kernel_rfl) (by kernel_rfl) (by rfl) ?_ hH ?_
    rotate_left
    · intro W hW; (try dsimp only at hW); go_simp <;> with_reducible rfl
    simp only [Act.put, List.setIfInBounds_toArray, List.set_cons_zero, List.set_cons_succ]
    refine hTake (i := 6) (v := ?_) rfl (by kernel_rfl) (by kernel_rfl) (by kernel_rfl) (by rfl) ?_ hH ?_
    rotate_left
    · intro W hW; (try dsimp only at hW); go_simp <;> with_reducible rfl
    simp only [Act.put, List.setIfInBounds_toArray, List.set_cons_zero, List.set_cons_succ]
    refine hTake (i := 7) (v := ?_) rfl (by kernel_rfl) (by kernel_rfl) (by kernel_rfl) (by rfl) ?_ hH ?_
    rotate_left
    · intro W hW; (try dsimp only at hW); go_simp <;> with_reducible rfl
    simp only [Act.put, List.setIfInBounds_toArray, List.set_cons_zero, List.set_cons_succ]
    refine wpAnyH_ready (rs := [5]) (by kernel_rfl) (by simp) ?_
    refine AllReadyH.cons rfl (fun K hK => ?_) AllReadyH.nil
    go_simp
    refine (high_any _ _ (by omega) (by omega)).mono ?_
    rintro e w1 ⟨rfl, hw1⟩
    subst w1
    go_wp2_with fail
    refine hK.out _ _ ?_ (fun hH => ?_)
    · exact hH
    clear hK K
    refine wpAnyH_ready (rs := [8]) (by kernel_rfl) (by simp) ?_
    refine AllReadyH.cons rfl (fun K hK => ?_) AllReadyH.nil
    go_simp
    refine (low_any _ _ (by omega) (by omega)).mono ?_
    rintro e w1 ⟨rfl, hw1⟩
    subst w1
    go_wp2_with fail
    refine hK.out _ _ ?_ (fun hH => ?_)
    · exact hH
    clear hK K
    refine wpAnyH_ready (rs := [9]) (by kernel_rfl) (by simp) ?_
    refine AllReadyH.cons rfl (fun K hK => ?_) AllReadyH.nil
    go_simp
    refine hK.out _ _ ?_ (fun hH => ?_)
    · exact HS.out _ (hH.2.2.2.2.2.2.2.alloc (by simp; omega) _)
    clear hK K
    refine hTake (i := 10) (v := ?_) rfl (by kernel_rfl) (by kernel_rfl) (by kernel_rfl) (by rfl) ?_ hH ?_
    rotate_left
    · intro W hW; (try dsimp only at hW); go_simp <;> with_reducible rfl
    simp only [Act.put, List.setIfInBounds_toArray, List.set_cons_zero, List.set_cons_succ]
    refine wpAnyH_done (by kernel_rfl) ?_ _
    refine NoPanic.normal ?_
    go_wp2_with fail
    go_meet
    exact ⟨_, _, rfl, lit_own #[.int .u8 kd, .int .u8 (tx / 256), .int .u8 (tx % 256)] 3 rfl (by first | omega | (simp; omega)) (by omega) (by first | rfl | simp), hH.2.2.2.2.2.2.2⟩
  case rest =>
  obtain ⟨g, c, rfl, own, hB⟩ := hcut
  clear b1 z1
  have q0 := box_at (below_boxT hB) 0
  simp at q0
  have zb := hB.size
  simp at zb
  cases hset : Ch.sets kd
  · have HB : Hid (Ch.Rec.body ⟨kd, tx, ky, hd, ol, hs, nw⟩ = [kd, tx / 256, tx % 256]) := by show _ = _; simp [Ch.Rec.body, hset]
    have HL : Hid (Ch.Rec.len ⟨kd, tx, ky, hd, ol, hs, nw⟩ = 5) := by show _ = _; simp [Ch.Rec.len, hset]
    have HE : Hid (Ch.Rec.bytes ⟨kd, tx, ky, hd, ol, hs, nw⟩ = Ch.withSum [kd, tx / 256, tx % 256]) := by show _ = _; simp [Ch.Rec.bytes, HB.out]
    rw [HB.out] at hbts
    clear HB
    generalize hp : [kd, tx / 256, tx % 256] = p at *
    go_wp2_with (go_at_call 64; refine (tells_any _ _).mono ?_; rintro e w1 ⟨rfl, hw1⟩; subst w1)
    refine (appendSum_any (w.heap.size + 2) g 3 c p _ own zb (by omega) hbts).mono ?_
    rintro e w2 ⟨g2, c2, rfl, own2, b2⟩
    have b2' := hB.trans b2
    have q0 := box_at2 b2' 0
    have q1 := box_at2 b2' 1
    have f0 := b2'.frozen (p := ⟨w.heap.size + 1, 0, none⟩) (by simp)
    have f1 := b2'.frozen (p := ⟨w.heap.size + 1, 1, none⟩) (by simp)
    simp [go_sem] at q0 q1 f0 f1
    have hg2 := owns_bounds own2
    go_wp2
    rw [HL.out, HE.out]
    refine bodyPost_ret (v := .agg #[.int .i64 0, .slice (some ⟨g2, 0, none⟩) (5) c2]) (by simp [results, Try.results43, go_sem, q0, q1]) rfl ⟨g2, c2, rfl, ?_, ?_⟩
    · exact owns_base (ownsRow_setCell_below (ownsRow_setCell_below own2 (by simp) _) (by simp) _) (by omega)
    · exact ((below_boxS (below_boxT b2')).setCell (p := ⟨w.heap.size + 1, 0, none⟩) (by simp) _).setCell (p := ⟨w.heap.size + 1, 1, none⟩) (by simp) _
  · have HL : Hid (Ch.Rec.len ⟨kd, tx, ky, hd, ol, hs, nw⟩ = 11) := by show _ = _; simp [Ch.Rec.len, hset]
    have HB : Hid (Ch.Rec.body ⟨kd, tx, ky, hd, ol, hs, nw⟩ = [kd, tx / 256, tx % 256, ky, Ch.Rec.flags ⟨kd, tx, ky, hd, ol, hs, nw⟩, ol / 256, ol % 256, nw / 256, nw % 256]) := by show _ = _; simp [Ch.Rec.body, hset, Ch.Rec.more]
    have HE : Hid (Ch.Rec.bytes ⟨kd, tx, ky, hd, ol, hs, nw⟩ = Ch.withSum [kd, tx / 256, tx % 256, ky, Ch.Rec.flags ⟨kd, tx, ky, hd, ol, hs, nw⟩, ol / 256, ol % 256, nw / 256, nw % 256]) := by show _ = _; simp [Ch.Rec.bytes, HB.out]
    rw [HB.out] at hbts
    clear HB
    have hfl := Ch.Rec.flags_bd ⟨kd, tx, ky, hd, ol, hs, nw⟩
    have flC := flags_any kd tx ky hd ol hs nw
    generalize Ch.Rec.flags ⟨kd, tx, ky, hd, ol, hs, nw⟩ = fl at *
    go_upto_region 6 with (go_at_call 64; refine (tells_any _ _).mono ?_; rintro e w1 ⟨rfl, hw1⟩; subst w1)
    go_cut [4] (fun s wx => ∃ g c, s = .slice (some ⟨g, 0, none⟩) 5 c ∧ wx.ownsRow (w.heap.size + 2) 5 1 (.slice (some ⟨g, 0, none⟩) 5 c) 5 (bts [kd, tx / 256, tx % 256, ky, fl]) ∧ Below (w.heap.size + 2) ((w.alloc (recO kd tx ky hd ol hs nw)).alloc (.cells #[.int .i64 0, .slice none 0 0] 69)) wx)
    case first =>
      have HS : Hid (∀ W', Below (w.heap.size + 2) ((w.alloc (recO kd tx ky hd ol hs nw)).alloc (.cells #[.int .i64 0, .slice none 0 0] 69)) W' → W'.cell? ⟨w.heap.size, 0, none⟩ = some (.int .i64 kd) ∧ W'.cell? ⟨w.heap.size, 1, none⟩ = some (.int .i64 tx) ∧ W'.cell? ⟨w.heap.size, 2, none⟩ = some (.int .i64 ky) ∧ W'.cell? ⟨w.heap.size, 3, none⟩ = some (.bool hd) ∧ W'.cell? ⟨w.heap.size, 4, none⟩ = some (.int .i64 ol) ∧ W'.cell? ⟨w.heap.size, 5, none⟩ = some (.bool hs) ∧ W'.cell? ⟨w.heap.size, 6, none⟩ = some (.int .i64 nw) ∧ Below (w.heap.size + 2) ((w.alloc (recO kd tx ky hd ol hs nw)).alloc (.cells #[.int .i64 0, .slice none 0 0] 69)) W') := fun W' hb => ⟨by simpa using box_at (below_boxT hb) 0, by simpa using box_at (below_boxT hb) 1, by simpa using box_at (below_boxT hb) 2, by simpa using box_at (below_boxT hb) 3, by simpa using box_at (below_boxT hb) 4, by simpa using box_at (below_boxT hb) 5, by simpa using box_at (below_boxT hb) 6, hb⟩
      refine wp_region_noPanic ?_
      refine wp_region_held_drew (S := fun W' => W'.cell? ⟨w.heap.size, 0, none⟩ = some (.int .i64 kd) ∧ W'.cell? ⟨w.heap.size, 1, none⟩ = some (.int .i64 tx) ∧ W'.cell? ⟨w.heap.size, 2, none⟩ = some (.int .i64 ky) ∧ W'.cell? ⟨w.heap.size, 3, none⟩ = some (.bool hd) ∧ W'.cell? ⟨w.heap.size, 4, none⟩ = some (.int .i64 ol) ∧ W'.cell? ⟨w.heap.size, 5, none⟩ = some (.bool hs) ∧ W'.cell? ⟨w.heap.size, 6, none⟩ = some (.int .i64 nw) ∧ Below (w.heap.size + 2) ((w.alloc (recO kd tx ky hd ol hs nw)).alloc (.cells #[.int .i64 0, .slice none 0 0] 69)) W') (by kernel_rfl) (HS.out _ hB.drew) (fun hH => ?_)
      refine hTake (i := 0) (v := ?_) rfl (by kernel_rfl) (by kernel_rfl) (by kernel_rfl) (by rfl) ?_ hH ?_
      rotate_left
      · intro W hW; (try dsimp only at hW); go_simp <;> with_reducible rfl
      simp only [Act.put, List.setIfInBounds_toArray, List.set_cons_zero, List.set_cons_succ]
      refine hTake (i := 1) (v := ?_) rfl (by kernel_rfl) (by kernel_rfl) (by kernel_rfl) (by rfl) ?_ hH ?_
      rotate_left
      · intro W hW; (try dsimp only at hW); go_simp <;> with_reducible rfl
      simp only [Act.put, List.setIfInBounds_toArray, List.set_cons_zero, List.set_cons_succ]
      refine hTake (i := 2) (v := ?_) rfl (by kernel_rfl) (by kernel_rfl) (by kernel_rfl) (by rfl) ?_ hH ?_
      rotate_left
      · intro W hW; (try dsimp only at hW); go_simp <;> with_reducible rfl
      simp only [Act.put, List.setIfInBounds_toArray, List.set_cons_zero, List.set_cons_succ]
      refine hTake (i := 3) (v := ?_) rfl (by kernel_rfl) (by kernel_rfl) (by kernel_rfl) (by rfl) ?_ hH ?_
      rotate_left
      · intro W hW; (try dsimp only at hW); go_simp <;> with_reducible rfl
      simp only [Act.put, List.setIfInBounds_toArray, List.set_cons_zero, List.set_cons_succ]
      refine hTake (i := 4) (v := ?_) rfl (by kernel_rfl) (by kernel_rfl) (by kernel_rfl) (by rfl) ?_ hH ?_
      rotate_left
      · intro W hW; (try dsimp only at hW); go_simp <;> with_reducible rfl
      simp only [Act.put, List.setIfInBounds_toArray, List.set_cons_zero, List.set_cons_succ]
      refine wpAnyH_ready (rs := [5]) (by kernel_rfl) (by simp) ?_
      refine AllReadyH.cons rfl (fun K hK => ?_) AllReadyH.nil
      go_simp
      refine (flC _).mono ?_
      rintro e w1 ⟨rfl, b1⟩
      have bw1 := hH.2.2.2.2.2.2.2.trans (b1.mono (by simp; omega))
      have ow1 := owns_below own.drew b1
      have zw1 := bw1.size
      simp at zw1
      go_wp2_with fail
      refine hK.out _ _ ?_ (fun hH => ?_)
      · exact HS.out _ bw1
      clear hK K
      refine wpAnyH_ready (rs := [6]) (by kernel_rfl) (by simp) ?_
      refine AllReadyH.cons rfl (fun K hK => ?_) AllReadyH.nil
      go_simp
      refine hK.out _ _ ?_ (fun hH => ?_)
      · exact HS.out _ (hH.2.2.2.2.2.2.2.alloc (by omega) _)
      clear hK K
      refine wpAnyH_ready (rs := [7]) (by kernel_rfl) (by simp) ?_
      refine AllReadyH.cons rfl (fun K hK => ?_) AllReadyH.nil
      refine step_appE (.tmp 24) (.tmp 30) (w.heap.size + 2) 3 (bts [kd, tx / 256, tx % 256]) 2 #[.int .u8 ky, .int .u8 fl] ⟨by omega, rfl, by omega⟩ rfl rfl ⟨_, _, rfl, ?_⟩ ⟨_, _, 5, rfl, ?_⟩ ?_ ?_ ?_
      · exact ow1.alloc _
      · exact heap_new' (by simp)
      · simp [Value.oneCell']
      · simp; omega
      intro g2 c2 w2 own2 gr2
      have bw2 := hH.2.2.2.2.2.2.2.trans gr2
      refine hK.out _ _ ?_ (fun hH => ?_)
      · exact HS.out _ bw2
      clear hK K
      simp only [Act.put, List.setIfInBounds_toArray, List.set_cons_zero, List.set_cons_succ]
      refine hTake (i := 8) (v := ?_) rfl (by kernel_rfl) (by kernel_rfl) (by kernel_rfl) (by rfl) ?_ hH ?_
      rotate_left
      · intro W hW; (try dsimp only at hW); go_simp <;> with_reducible rfl
      simp only [Act.put, List.setIfInBounds_toArray, List.set_cons_zero, List.set_cons_succ]
      refine wpAnyH_done (by kernel_rfl) ?_ _
      refine NoPanic.normal ?_
      go_wp2_with fail
      go_meet
      exact ⟨g2, c2, rfl, by simpa [bts] using own2, bw2⟩
    case rest =>
    clear own hB q0 zb
    obtain ⟨g, c, rfl, own, hB⟩ := hcut
    have zb := hB.size
    simp at zb
    go_upto_region 7 with fail
    go_cut [4] (fun s wx => ∃ g c, s = .slice (some ⟨g, 0, none⟩) 7 c ∧ wx.ownsRow (w.heap.size + 2) 5 1 (.slice (some ⟨g, 0, none⟩) 7 c) 7 (bts [kd, tx / 256, tx % 256, ky, fl, ol / 256, ol % 256]) ∧ Below (w.heap.size + 2) ((w.alloc (recO kd tx ky hd ol hs nw)).alloc (.cells #[.int .i64 0, .slice none 0 0] 69)) wx)
    case first =>
      have HS : Hid (∀ W', Below (w.heap.size + 2) ((w.alloc (recO kd tx ky hd ol hs nw)).alloc (.cells #[.int .i64 0, .slice none 0 0] 69)) W' → W'.cell? ⟨w.heap.size, 0, none⟩ = some (.int .i64 kd) ∧ W'.cell? ⟨w.heap.size, 1, none⟩ = some (.int .i64 tx) ∧ W'.cell? ⟨w.heap.size, 2, none⟩ = some (.int .i64 ky) ∧ W'.cell? ⟨w.heap.size, 3, none⟩ = some (.bool hd) ∧ W'.cell? ⟨w.heap.size, 4, none⟩ = some (.int .i64 ol) ∧ W'.cell? ⟨w.heap.size, 5, none⟩ = some (.bool hs) ∧ W'.cell? ⟨w.heap.size, 6, none⟩ = some (.int .i64 nw) ∧ Below (w.heap.size + 2) ((w.alloc (recO kd tx ky hd ol hs nw)).alloc (.cells #[.int .i64 0, .slice none 0 0] 69)) W') := fun W' hb => ⟨by simpa using box_at (below_boxT hb) 0, by simpa using box_at (below_boxT hb) 1, by simpa using box_at (below_boxT hb) 2, by simpa using box_at (below_boxT hb) 3, by simpa using box_at (below_boxT hb) 4, by simpa using box_at (below_boxT hb) 5, by simpa using box_at (below_boxT hb) 6, hb⟩
      refine wp_region_noPanic ?_
      refine wp_region_held_drew (S := fun W' => W'.cell? ⟨w.heap.size, 0, none⟩ = some (.int .i64 kd) ∧ W'.cell? ⟨w.heap.size, 1, none⟩ = some (.int .i64 tx) ∧ W'.cell? ⟨w.heap.size, 2, none⟩ = some (.int .i64 ky) ∧ W'.cell? ⟨w.heap.size, 3, none⟩ = some (.bool hd) ∧ W'.cell? ⟨w.heap.size, 4, none⟩ = some (.int .i64 ol) ∧ W'.cell? ⟨w.heap.size, 5, none⟩ = some (.bool hs) ∧ W'.cell? ⟨w.heap.size, 6, none⟩ = some (.int .i64 nw) ∧ Below (w.heap.size + 2) ((w.alloc (recO kd tx ky hd ol hs nw)).alloc (.cells #[.int .i64 0, .slice none 0 0] 69)) W') (by kernel_rfl) (HS.out _ hB.drew) (fun hH => ?_)
      refine hTake (i := 0) (v := ?_) rfl (by kernel_rfl) (by kernel_rfl) (by kernel_rfl) (by rfl) ?_ hH ?_
      rotate_left
      · intro W hW; (try dsimp only at hW); go_simp <;> with_reducible rfl
      simp only [Act.put, List.setIfInBounds_toArray, List.set_cons_zero, List.set_cons_succ]
      refine hTake (i := 1) (v := ?_) rfl (by kernel_rfl) (by kernel_rfl) (by kernel_rfl) (by rfl) ?_ hH ?_
      rotate_left
      · intro W hW; (try dsimp only at hW); go_simp <;> with_reducible rfl
      simp only [Act.put, List.setIfInBounds_toArray, List.set_cons_zero, List.set_cons_succ]
      refine hTake (i := 2) (v := ?_) rfl (by kernel_rfl) (by kernel_rfl) (by kernel_rfl) (by rfl) ?_ hH ?_
      rotate_left
      · intro W hW; (try dsimp only at hW); go_simp <;> with_reducible rfl
      simp only [Act.put, List.setIfInBounds_toArray, List.set_cons_zero, List.set_cons_succ]
      refine hTake (i := 4) (v := ?_) rfl (by kernel_rfl) (by kernel_rfl) (by kernel_rfl) (by rfl) ?_ hH ?_
      rotate_left
      · intro W hW; (try dsimp only at hW); go_simp <;> with_reducible rfl
      simp only [Act.put, List.setIfInBounds_toArray, List.set_cons_zero, List.set_cons_succ]
      refine hTake (i := 5) (v := ?_) rfl (by kernel_rfl) (by kernel_rfl) (by kernel_rfl) (by rfl) ?_ hH ?_
      rotate_left
      · intro W hW; (try dsimp only at hW); go_simp <;> with_reducible rfl
      simp only [Act.put, List.setIfInBounds_toArray, List.set_cons_zero, List.set_cons_succ]
      refine wpAnyH_ready (rs := [3]) (by kernel_rfl) (by simp) ?_
      refine AllReadyH.cons rfl (fun K hK => ?_) AllReadyH.nil
      go_simp
      refine (high_any _ _ (by omega) (by omega)).mono ?_
      rintro e w1 ⟨rfl, hw1⟩
      subst w1
      go_wp2_with fail
      refine hK.out _ _ ?_ (fun hH => ?_)
      · exact hH
      clear hK K
      refine wpAnyH_ready (rs := [6]) (by kernel_rfl) (by simp) ?_
      refine AllReadyH.cons rfl (fun K hK => ?_) AllReadyH.nil
      go_simp
      refine (low_any _ _ (by omega) (by omega)).mono ?_
      rintro e w1 ⟨rfl, hw1⟩
      subst w1
      go_wp2_with fail
      refine hK.out _ _ ?_ (fun hH => ?_)
      · exact hH
      clear hK K
      refine wpAnyH_ready (rs := [7]) (by kernel_rfl) (by simp) ?_
      refine AllReadyH.cons rfl (fun K hK => ?_) AllReadyH.nil
      go_simp
      refine hK.out _ _ ?_ (fun hH => ?_)
      · exact HS.out _ (hH.2.2.2.2.2.2.2.alloc (by simp; omega) _)
      clear hK K
      refine wpAnyH_ready (rs := [8]) (by kernel_rfl) (by simp) ?_
      refine AllReadyH.cons rfl (fun K hK => ?_) AllReadyH.nil
      refine step_appE (.tmp 32) (.tmp 39) (w.heap.size + 2) 5 (bts [kd, tx / 256, tx % 256, ky, fl]) 2 #[.int .u8 (ol / 256), .int .u8 (ol % 256)] ⟨by omega, rfl, by omega⟩ rfl rfl ⟨_, _, rfl, ?_⟩ ⟨_, _, 5, rfl, ?_⟩ ?_ ?_ ?_
      · exact (own.alloc _).drew
      · exact heap_new' (by simp)
      · simp [Value.oneCell']
      · simp; omega
      intro g2 c2 w2 own2 gr2
      have bw2 := hH.2.2.2.2.2.2.2.trans gr2
      refine hK.out _ _ ?_ (fun hH => ?_)
      · exact HS.out _ bw2
      clear hK K
      simp only [Act.put, List.setIfInBounds_toArray, List.set_cons_zero, List.set_cons_succ]
      refine hTake (i := 9) (v := ?_) rfl (by kernel_rfl) (by kernel_rfl) (by kernel_rfl) (by rfl) ?_ hH ?_
      rotate_left
      · intro W hW; (try dsimp only at hW); go_simp <;> with_reducible rfl
      simp only [Act.put, List.setIfInBounds_toArray, List.set_cons_zero, List.set_cons_succ]
      refine wpAnyH_done (by kernel_rfl) ?_ _
      refine NoPanic.normal ?_
      go_wp2_with fail
      go_meet
      exact ⟨g2, c2, rfl, by simpa [bts] using own2, bw2⟩
    case rest =>
    clear own hB zb
    obtain ⟨g, c, rfl, own, hB⟩ := hcut
    have zb := hB.size
    simp at zb
    go_upto_region 8 with fail
    go_cut [4] (fun s wx => ∃ g c, s = .slice (some ⟨g, 0, none⟩) 9 c ∧ wx.ownsRow (w.heap.size + 2) 5 1 (.slice (some ⟨g, 0, none⟩) 9 c) 9 (bts [kd, tx / 256, tx % 256, ky, fl, ol / 256, ol % 256, nw / 256, nw % 256]) ∧ Below (w.heap.size + 2) ((w.alloc (recO kd tx ky hd ol hs nw)).alloc (.cells #[.int .i64 0, .slice none 0 0] 69)) wx)
    case first =>
      have HS : Hid (∀ W', Below (w.heap.size + 2) ((w.alloc (recO kd tx ky hd ol hs nw)).alloc (.cells #[.int .i64 0, .slice none 0 0] 69)) W' → W'.cell? ⟨w.heap.size, 0, none⟩ = some (.int .i64 kd) ∧ W'.cell? ⟨w.heap.size, 1, none⟩ = some (.int .i64 tx) ∧ W'.cell? ⟨w.heap.size, 2, none⟩ = some (.int .i64 ky) ∧ W'.cell? ⟨w.heap.size, 3, none⟩ = some (.bool hd) ∧ W'.cell? ⟨w.heap.size, 4, none⟩ = some (.int .i64 ol) ∧ W'.cell? ⟨w.heap.size, 5, none⟩ = some (.bool hs) ∧ W'.cell? ⟨w.heap.size, 6, none⟩ = some (.int .i64 nw) ∧ Below (w.heap.size + 2) ((w.alloc (recO kd tx ky hd ol hs nw)).alloc (.cells #[.int .i64 0, .slice none 0 0] 69)) W') := fun W' hb => ⟨by simpa using box_at (below_boxT hb) 0, by simpa using box_at (below_boxT hb) 1, by simpa using box_at (below_boxT hb) 2, by simpa using box_at (below_boxT hb) 3, by simpa using box_at (below_boxT hb) 4, by simpa using box_at (below_boxT hb) 5, by simpa using box_at (below_boxT hb) 6, hb⟩
      refine wp_region_noPanic ?_
      refine wp_region_held_drew (S := fun W' => W'.cell? ⟨w.heap.size, 0, none⟩ = some (.int .i64 kd) ∧ W'.cell? ⟨w.heap.size, 1, none⟩ = some (.int .i64 tx) ∧ W'.cell? ⟨w.heap.size, 2, none⟩ = some (.int .i64 ky) ∧ W'.cell? ⟨w.heap.size, 3, none⟩ = some (.bool hd) ∧ W'.cell? ⟨w.heap.size, 4, none⟩ = some (.int .i64 ol) ∧ W'.cell? ⟨w.heap.size, 5, none⟩ = some (.bool hs) ∧ W'.cell? ⟨w.heap.size, 6, none⟩ = some (.int .i64 nw) ∧ Below (w.heap.size + 2) ((w.alloc (recO kd tx ky hd ol hs nw)).alloc (.cells #[.int .i64 0, .slice none 0 0] 69)) W') (by kernel_rfl) (HS.out _ hB.drew) (fun hH => ?_)
      refine hTake (i := 0) (v := ?_) rfl (by kernel_rfl) (by kernel_rfl) (by kernel_rfl) (by rfl) ?_ hH ?_
      rotate_left
      · intro W hW; (try dsimp only at hW); go_simp <;> with_reducible rfl
      simp only [Act.put, List.setIfInBounds_toArray, List.set_cons_zero, List.set_cons_succ]
      refine hTake (i := 1) (v := ?_) rfl (by kernel_rfl) (by kernel_rfl) (by kernel_rfl) (by rfl) ?_ hH ?_
      rotate_left
      · intro W hW; (try dsimp only at hW); go_simp <;> with_reducible rfl
      simp only [Act.put, List.setIfInBounds_toArray, List.set_cons_zero, List.set_cons_succ]
      refine hTake (i := 2) (v := ?_) rfl (by kernel_rfl) (by kernel_rfl) (by kernel_rfl) (by rfl) ?_ hH ?_
      rotate_left
      · intro W hW; (try dsimp only at hW); go_simp <;> with_reducible rfl
      simp only [Act.put, List.setIfInBounds_toArray, List.set_cons_zero, List.set_cons_succ]
      refine hTake (i := 4) (v := ?_) rfl (by kernel_rfl) (by kernel_rfl) (by kernel_rfl) (by rfl) ?_ hH ?_
      rotate_left
      · intro W hW; (try dsimp only at hW); go_simp <;> with_reducible rfl
      simp only [Act.put, List.setIfInBounds_toArray, List.set_cons_zero, List.set_cons_succ]
      refine hTake (i := 5) (v := ?_) rfl (by kernel_rfl) (by kernel_rfl) (by kernel_rfl) (by rfl) ?_ hH ?_
      rotate_left
      · intro W hW; (try dsimp only at hW); go_simp <;> with_reducible rfl
      simp only [Act.put, List.setIfInBounds_toArray, List.set_cons_zero, List.set_cons_succ]
      refine wpAnyH_ready (rs := [3]) (by kernel_rfl) (by simp) ?_
      refine AllReadyH.cons rfl (fun K hK => ?_) AllReadyH.nil
      go_simp
      refine (high_any _ _ (by omega) (by omega)).mono ?_
      rintro e w1 ⟨rfl, hw1⟩
      subst w1
      go_wp2_with fail
      refine hK.out _ _ ?_ (fun hH => ?_)
      · exact hH
      clear hK K
      refine wpAnyH_ready (rs := [6]) (by kernel_rfl) (by simp) ?_
      refine AllReadyH.cons rfl (fun K hK => ?_) AllReadyH.nil
      go_simp
      refine (low_any _ _ (by omega) (by omega)).mono ?_
      rintro e w1 ⟨rfl, hw1⟩
      subst w1
      go_wp2_with fail
      refine hK.out _ _ ?_ (fun hH => ?_)
      · exact hH
      clear hK K
      refine wpAnyH_ready (rs := [7]) (by kernel_rfl) (by simp) ?_
      refine AllReadyH.cons rfl (fun K hK => ?_) AllReadyH.nil
      go_simp
      refine hK.out _ _ ?_ (fun hH => ?_)
      · exact HS.out _ (hH.2.2.2.2.2.2.2.alloc (by simp; omega) _)
      clear hK K
      refine wpAnyH_ready (rs := [8]) (by kernel_rfl) (by simp) ?_
      refine AllReadyH.cons rfl (fun K hK => ?_) AllReadyH.nil
      refine step_appE (.tmp 41) (.tmp 48) (w.heap.size + 2) 7 (bts [kd, tx / 256, tx % 256, ky, fl, ol / 256, ol % 256]) 2 #[.int .u8 (nw / 256), .int .u8 (nw % 256)] ⟨by omega, rfl, by omega⟩ rfl rfl ⟨_, _, rfl, ?_⟩ ⟨_, _, 5, rfl, ?_⟩ ?_ ?_ ?_
      · exact (own.alloc _).drew
      · exact heap_new' (by simp)
      · simp [Value.oneCell']
      · simp; omega
      intro g2 c2 w2 own2 gr2
      have bw2 := hH.2.2.2.2.2.2.2.trans gr2
      refine hK.out _ _ ?_ (fun hH => ?_)
      · exact HS.out _ bw2
      clear hK K
      simp only [Act.put, List.setIfInBounds_toArray, List.set_cons_zero, List.set_cons_succ]
      refine hTake (i := 9) (v := ?_) rfl (by kernel_rfl) (by kernel_rfl) (by kernel_rfl) (by rfl) ?_ hH ?_
      rotate_left
      · intro W hW; (try dsimp only at hW); go_simp <;> with_reducible rfl
      simp only [Act.put, List.setIfInBounds_toArray, List.set_cons_zero, List.set_cons_succ]
      refine wpAnyH_done (by kernel_rfl) ?_ _
      refine NoPanic.normal ?_
      go_wp2_with fail
      go_meet
      exact ⟨g2, c2, rfl, by simpa [bts] using own2, bw2⟩
    case rest =>
    clear own hB zb
    obtain ⟨g, c, rfl, own, hB⟩ := hcut
    have zb := hB.size
    simp at zb
    generalize hp : [kd, tx / 256, tx % 256, ky, fl, ol / 256, ol % 256, nw / 256, nw % 256] = p at *
    go_wp2_with fail
    refine (appendSum_any (w.heap.size + 2) g 9 c p _ own zb (by omega) hbts).mono ?_
    rintro e w2 ⟨g2, c2, rfl, own2, b2⟩
    have b2' := hB.trans b2
    have q0 := box_at2 b2' 0
    have q1 := box_at2 b2' 1
    have f0 := b2'.frozen (p := ⟨w.heap.size + 1, 0, none⟩) (by simp)
    have f1 := b2'.frozen (p := ⟨w.heap.size + 1, 1, none⟩) (by simp)
    simp [go_sem] at q0 q1 f0 f1
    have hg2 := owns_bounds own2
    go_wp2
    rw [HL.out, HE.out]
    refine bodyPost_ret (v := .agg #[.int .i64 0, .slice (some ⟨g2, 0, none⟩) (11) c2]) (by simp [results, Try.results43, go_sem, q0, q1]) rfl ⟨g2, c2, rfl, ?_, ?_⟩
    · exact owns_base (ownsRow_setCell_below (ownsRow_setCell_below own2 (by simp) _) (by simp) _) (by omega)
    · exact ((below_boxS (below_boxT b2')).setCell (p := ⟨w.heap.size + 1, 0, none⟩) (by simp) _).setCell (p := ⟨w.heap.size + 1, 1, none⟩) (by simp) _
end Go.Proofs.Ytommekhmdmnjlaa
