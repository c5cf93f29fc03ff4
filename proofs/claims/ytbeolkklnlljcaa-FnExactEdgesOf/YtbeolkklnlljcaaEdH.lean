/- The model's edges of locks. -/
import Derived.Test.YtbeolkklnlljcaaEdF
import Derived.Test.YtbeolkklnlljcaaLkX
import Derived.Test.YtbeolkklnlljcaaLkEM
import Derived.Deep.DeepCutAuto
namespace Go.Proofs.Ytbeolkklnlljcaa
open Go.RowKit

theorem Ch.fits_tab {a b : Int} (ha : Ch.isM a = true) (hb : Ch.isM b = true) : Ch.tab Ch.fitT a b = Ch.fits a b := by
  unfold Ch.fits; rw [ha, hb]; rfl
theorem Ch.good_in {ls : List Ch.Lock} (h : Ch.locksFault ls = 0) {i : Nat} (hi : i < ls.length) : (Ch.lkAt ls i).hs.length ≤ 20 ∧ (Ch.lkAt ls i).qs.length ≤ 20 ∧ Ch.namesH (Ch.lkAt ls i).hs = true ∧ Ch.namesH (Ch.lkAt ls i).qs = true := by
  have := Ch.lock_good (Ch.one_good ((Ch.locks_good h).1 i hi)).2.2.2
  exact ⟨this.1, this.2.1, this.2.2.1, this.2.2.2.1⟩
/-- What l7Edges answers. -/
def EdgD (ls : List Ch.Lock) (w : World) (e : Ending) (w' : World) : Prop :=
  ∃ g m c, e = .returned (.slice (some ⟨g, 0, none⟩) m c) ∧ m ≤ 100000 ∧ w'.ownsRow w.heap.size 50 2 (.slice (some ⟨g, 0, none⟩) m c) m (hcells (Ch.sortE (Ch.allE ls))) ∧ Below w.heap.size w w'

set_option linter.unusedSimpArgs false in
set_option maxRecDepth 20000 in
set_option maxHeartbeats 8000000 in
theorem l7Edges_any (a : Option Addr) (n cap : Nat) (ls : List Ch.Lock) (w : World) (h : LkAt w a n ls) (hg : Ch.locksFault ls = 0) :
    Calls Try.prog 88 #[.slice a n cap] w fun e w' => EdgD ls w e w' := by
  have HL := h.len
  have HG := hid hg
  have hn : n ≤ 101 := by have := Ch.good_few hg; have := HL.out; omega
  obtain ⟨W0, hW0⟩ : ∃ W0, w.heap.size = W0 := ⟨_, rfl⟩
  have oE := new_empty w 50 2
  rw [hW0] at oE
  have kE : Below w.heap.size w (w.alloc (.cells #[] 50)) := (Below.refl _ _).alloc (Nat.le_refl _) _
  clear hg
  go_enter Try.func88, Try.ntmps88
  go_wp2
  go_loopw [3, 4] (fun q i wr => ∃ (I m g c : Nat), I ≤ n ∧ i = .int .i64 I ∧ q = .slice (some ⟨g, 0, none⟩) m c ∧ wr.ownsRow W0 50 2 (.slice (some ⟨g, 0, none⟩) m c) m (hcells (Ch.sortE (Ch.allE (ls.take I)))) ∧ m ≤ 800 * I ∧ Below w.heap.size w wr) (fun _ i _ => n - (intOf i).toNat)
  case atStart => exact ⟨0, 0, _, 0, Nat.zero_le _, rfl, rfl, oE, Nat.le_refl _, kE⟩
  case round =>
    clear oE kE
    obtain ⟨I, m, g, c, hI, rfl, rfl, own, hm, hB⟩ := hrel
    generalize wr = wA at *
    by_cases hlt : I < n
    · have hIl : I < ls.length := by have := HL.out; omega
      have HGK := hid (Ch.good_in HG.out hIl)
      have HAN := hid (Ch.allE_next hIl)
      obtain ⟨b, off, ah, nh, ch, aq, nq, cq, rfl, c0, c1, c2, h3, h4, _, _, _, _⟩ := (h.below hB).lock hlt
      have HQN := hid (fun k => Ch.queueE_next (Ch.lkAt ls I) k)
      generalize Ch.lkAt ls I = l at *
      obtain ⟨r, hs, qs⟩ := l
      simp only at c0 h3 h4 HGK HAN HQN
      have HH := h3.hlen
      have HQ := h4.hlen
      have hnh : nh ≤ 20 := by have := HGK.out.1; have := HH.out; omega
      have hnq : nq ≤ 20 := by have := HGK.out.2.1; have := HQ.out; omega
      have hbl := lt_of_cell c0
      have hq0 : Hid (Ch.allE (ls.take I) ++ Ch.queueE ⟨r, hs, qs⟩ 0 = Ch.allE (ls.take I)) := by show _ = _; simp [Ch.queueE]
      obtain ⟨A0, HA0⟩ : ∃ A0, Hid (Ch.allE (ls.take I) = A0) := ⟨_, rfl⟩
      rw [HA0.out] at own HAN hq0
      obtain ⟨QE, HQE⟩ : ∃ QE : Nat → List Ch.Hold, Hid (∀ k, Ch.queueE ⟨r, hs, qs⟩ k = QE k) := ⟨_, fun _ => rfl⟩
      rw [HQE.out] at hq0 HAN
      have HQN2 : Hid (∀ k, QE (k + 1) = QE k ++ (Ch.waitE (qs.getD k Ch.Hold.zero) hs ++ Ch.aheadE (qs.getD k Ch.Hold.zero) (qs.take k))) := fun k => by rw [← HQE.out, ← HQE.out]; exact HQN.out k
      clear HQN HQE
      go_wp2
      go_loopw [3, 6] (fun q i wx => ∃ (k m g c : Nat), k ≤ nq ∧ i = .int .i64 k ∧ q = .slice (some ⟨g, 0, none⟩) m c ∧ wx.ownsRow W0 50 2 (.slice (some ⟨g, 0, none⟩) m c) m (hcells (Ch.sortE (A0 ++ QE k))) ∧ m ≤ 800 * I + 40 * k ∧ Below wA.heap.size wA wx) (fun _ i _ => nq - (intOf i).toNat)
      case atStart => exact ⟨0, m, g, c, Nat.zero_le _, rfl, rfl, by rw [hq0.out]; exact own, by omega, Below.refl _ _⟩
      case round =>
        clear own hm hq0
        obtain ⟨k, m, g, c, hk, rfl, rfl, own, hm, hX⟩ := hrel
        generalize wr = wx at *
        have p1 := keep_cell hX c1
        have p2 := keep_cell hX c2
        have hbx := lt_of_cell p1
        by_cases hlk : k < nq
        · have hkl : k < qs.length := by have := HQ.out; omega
          have HQK := hid (HQN2.out k)
          have HNQ := hid (Ch.name_mode (Ch.names_at HGK.out.2.2.2 hkl))
          obtain ⟨qb, qo, rfl, q0, q1⟩ := (h4.below hX).hold hlk
          have hqb := lt_of_cell q0
          generalize qs.getD k Ch.Hold.zero = qq at *
          obtain ⟨qt, qm⟩ := qq
          simp only at q0 q1 HNQ
          have kB : Below wx.heap.size wx (wx.alloc (.cells #[.int .i64 qt, .int .i64 qm] 120)) := (Below.refl _ _).alloc (Nat.le_refl _) _
          obtain ⟨z0, z1, _, _⟩ := row2 (heap_alloc_new wx (.cells #[.int .i64 qt, .int .i64 qm] 120))
          have own1 := owns_below own kB
          have hX1 := hX.trans (kB.mono hX.size)
          have s1 := keep_cell kB p1
          have s2 := keep_cell kB p2
          have ls1 := lt_of_cell s1
          have lz := lt_of_cell z0
          obtain ⟨PX, hPX⟩ : ∃ PX, wx.heap.size = PX := ⟨_, rfl⟩
          go_wp2
          clear own q0 q1 kB p1 p2 hbx
          rw [hPX] at z0 z1 lz
          generalize wx.alloc (.cells #[.int .i64 qt, .int .i64 qm] 120) = X at *
          go_loopw [3, 8] (fun q i wy => ∃ (j m g c : Nat), j ≤ nh ∧ i = .int .i64 j ∧ q = .slice (some ⟨g, 0, none⟩) m c ∧ wy.ownsRow W0 50 2 (.slice (some ⟨g, 0, none⟩) m c) m (hcells (Ch.sortE (A0 ++ QE k ++ Ch.waitE ⟨qt, qm⟩ (hs.take j)))) ∧ m ≤ 800 * I + 40 * k + j ∧ Below X.heap.size X wy) (fun _ i _ => nh - (intOf i).toNat)
          case atStart => exact ⟨0, m, g, c, Nat.zero_le _, rfl, rfl, by simpa [Ch.waitE] using own1, by omega, Below.refl _ _⟩
          case round =>
            clear own1 hm
            obtain ⟨j, m, g, c, hj, rfl, rfl, own, hm, hY⟩ := hrel
            generalize wr = wy at *
            have t1 := keep_cell hY s1
            have t2 := keep_cell hY s2
            have y0 := keep_cell hY z0
            have y1 := keep_cell hY z1
            have lt1 := lt_of_cell t1
            have ly := lt_of_cell y0
            have hXY := hX1.trans (hY.mono hX1.size)
            by_cases hlj : j < nh
            · have hjl : j < hs.length := by have := HH.out; omega
              have HNH := hid (Ch.name_mode (Ch.names_at HGK.out.2.2.1 hjl))
              have HWY := hid (fun he => Ch.waitE_yes (q := ⟨qt, qm⟩) hjl he)
              have HWN := hid (fun he => Ch.waitE_no (q := ⟨qt, qm⟩) hjl he)
              obtain ⟨hb, ho, rfl, r0, r1⟩ := (h3.below hXY).hold hlj
              have hhb := lt_of_cell r0
              generalize hs.getD j Ch.Hold.zero = hh at *
              obtain ⟨rt, rm⟩ := hh
              simp only at r0 r1 HNH HWY HWN
              obtain ⟨f, HF⟩ : ∃ f, Hid (Ch.fits rm qm = f) := ⟨_, rfl⟩
              have IF := fun W => l5Fit_any rm qm W HNH.out.1 HNQ.out.1
              rw [Ch.fits_tab HNH.out.1 HNQ.out.1, HF.out] at IF
              rw [HF.out] at HWY HWN
              by_cases h1 : rt = qt
              · have e1 : (rt != qt) = false := by simpa using h1
                replace HWN := hid (HWN.out (by rw [e1]; rfl))
                clear HWY h1
                go_wp2_with fail
                refine wp_region_noPanic ?_
                refine wp_region_held_drew (S := fun W' => W'.cell? ⟨b, off + I * 3 + 1, none⟩ = some (.slice (some ⟨hb, ho, none⟩) nh ch) ∧ W'.cell? ⟨PX, 0, none⟩ = some (.int .i64 qt) ∧ W'.cell? ⟨PX, 1, none⟩ = some (.int .i64 qm) ∧ W'.cell? ⟨hb, ho + j * 2, none⟩ = some (.int .i64 rt) ∧ W'.cell? ⟨hb, ho + j * 2 + 1, none⟩ = some (.int .i64 rm) ∧ Below X.heap.size X W') (by kernel_rfl) (⟨t1, y0, y1, r0, r1, hY.drew⟩) (fun hH => ?_)
                refine hTake (i := 0) (v := ?_) rfl (by kernel_rfl) (by kernel_rfl) (by kernel_rfl) (by rfl) ?_ hH ?_
                rotate_left
                · intro W hW; (try dsimp only at hW); go_simp <;> with_reducible rfl
                simp only [Act.put, List.setIfInBounds_toArray, List.set_cons_zero, List.set_cons_succ]
                refine hTake (i := 1) (v := ?_) rfl (by kernel_rfl) (by kernel_rfl) (by kernel_rfl) (by rfl) ?_ hH ?_
                rotate_left
                · intro W hW; (try dsimp only at hW); go_simp <;> with_reducible rfl
                simp only [Act.put, List.setIfInBounds_toArray, List.set_cons_zero, List.set_cons_succ]
                refine hTake (i := 2) (v := ?_) rfl (by kernel_rfl) (by kernel_rfl) (by kernel_rfl) (by rfl) ?_ hH ?_
                rotate_left
                · intro W hW; (try dsimp only at hW); go_simp <;> with_reducible rfl
                simp only [Act.put, List.setIfInBounds_toArray, List.set_cons_zero, List.set_cons_succ]
                refine hTake (i := 3) (v := ?_) rfl (by kernel_rfl) (by kernel_rfl) (by kernel_rfl) (by rfl) ?_ hH ?_
                rotate_left
                · intro W hW; (try dsimp only at hW); go_simp <;> with_reducible rfl
                simp only [Act.put, List.setIfInBounds_toArray, List.set_cons_zero, List.set_cons_succ]
                refine hTake (i := 4) (v := ?_) rfl (by kernel_rfl) (by kernel_rfl) (by kernel_rfl) (by rfl) ?_ hH ?_
                rotate_left
                · intro W hW; (try dsimp only at hW); go_simp <;> with_reducible rfl
                simp only [Act.put, List.setIfInBounds_toArray, List.set_cons_zero, List.set_cons_succ]
                refine hTake (i := 5) (v := ?_) rfl (by kernel_rfl) (by kernel_rfl) (by kernel_rfl) (by rfl) ?_ hH ?_
                rotate_left
                · intro W hW; (try dsimp only at hW); go_simp <;> with_reducible rfl
                simp only [Act.put, List.setIfInBounds_toArray, List.set_cons_zero, List.set_cons_succ]
                refine hTake (i := 6) (v := ?_) rfl (by kernel_rfl) (by kernel_rfl) (by kernel_rfl) (by rfl) ?_ hH ?_
                rotate_left
                · intro W hW; (try dsimp only at hW); go_simp <;> with_reducible rfl
                simp only [Act.put, List.setIfInBounds_toArray, List.set_cons_zero, List.set_cons_succ]
                refine hTake (i := 7) (v := ?_) rfl (by kernel_rfl) (by kernel_rfl) (by kernel_rfl) (by rfl) ?_ hH ?_
                rotate_left
                · intro W hW; (try dsimp only at hW); go_simp <;> with_reducible rfl
                simp only [Act.put, List.setIfInBounds_toArray, List.set_cons_zero, List.set_cons_succ]
                refine hTake (i := 8) (v := ?_) rfl (by kernel_rfl) (by kernel_rfl) (by kernel_rfl) (by rfl) ?_ hH ?_
                rotate_left
                · intro W hW; (try dsimp only at hW); go_simp <;> with_reducible rfl
                simp only [Act.put, List.setIfInBounds_toArray, List.set_cons_zero, List.set_cons_succ]
                refine hTake (i := 9) (v := ?_) rfl (by kernel_rfl) (by kernel_rfl) (by kernel_rfl) (by rfl) ?_ hH ?_
                rotate_left
                · intro W hW; (try dsimp only at hW); go_simp <;> with_reducible rfl
                simp only [Act.put, List.setIfInBounds_toArray, List.set_cons_zero, List.set_cons_succ]
                refine hTake (i := 10) (v := ?_) rfl (by kernel_rfl) (by kernel_rfl) (by kernel_rfl) (by rfl) ?_ hH ?_
                rotate_left
                · intro W hW; (try dsimp only at hW); go_simp <;> with_reducible rfl
                simp only [Act.put, List.setIfInBounds_toArray, List.set_cons_zero, List.set_cons_succ]
                refine hTake (i := 11) (v := ?_) rfl (by kernel_rfl) (by kernel_rfl) (by kernel_rfl) (by rfl) ?_ hH ?_
                rotate_left
                · intro W hW; (try dsimp only at hW); go_simp <;> with_reducible rfl
                simp only [Act.put, List.setIfInBounds_toArray, List.set_cons_zero, List.set_cons_succ]
                refine hSkip (i := 12) rfl (by kernel_rfl) (by kernel_rfl) (by kernel_rfl) (by rfl) hH ?_
                simp only [Act.put, List.setIfInBounds_toArray, List.set_cons_zero, List.set_cons_succ]
                refine hSkip (i := 13) rfl (by kernel_rfl) (by kernel_rfl) (by kernel_rfl) (by rfl) hH ?_
                simp only [Act.put, List.setIfInBounds_toArray, List.set_cons_zero, List.set_cons_succ]
                refine hSkip (i := 14) rfl (by kernel_rfl) (by kernel_rfl) (by kernel_rfl) (by rfl) hH ?_
                simp only [Act.put, List.setIfInBounds_toArray, List.set_cons_zero, List.set_cons_succ]
                refine hSkip (i := 15) rfl (by kernel_rfl) (by kernel_rfl) (by kernel_rfl) (by rfl) hH ?_
                simp only [Act.put, List.setIfInBounds_toArray, List.set_cons_zero, List.set_cons_succ]
                refine hSkip (i := 16) rfl (by kernel_rfl) (by kernel_rfl) (by kernel_rfl) (by rfl) hH ?_
                simp only [Act.put, List.setIfInBounds_toArray, List.set_cons_zero, List.set_cons_succ]
                refine hSkip (i := 17) rfl (by kernel_rfl) (by kernel_rfl) (by kernel_rfl) (by rfl) hH ?_
                simp only [Act.put, List.setIfInBounds_toArray, List.set_cons_zero, List.set_cons_succ]
                refine hSkip (i := 18) rfl (by kernel_rfl) (by kernel_rfl) (by kernel_rfl) (by rfl) hH ?_
                simp only [Act.put, List.setIfInBounds_toArray, List.set_cons_zero, List.set_cons_succ]
                refine hSkip (i := 19) rfl (by kernel_rfl) (by kernel_rfl) (by kernel_rfl) (by rfl) hH ?_
                simp only [Act.put, List.setIfInBounds_toArray, List.set_cons_zero, List.set_cons_succ]
                refine hSkip (i := 20) rfl (by kernel_rfl) (by kernel_rfl) (by kernel_rfl) (by rfl) hH ?_
                simp only [Act.put, List.setIfInBounds_toArray, List.set_cons_zero, List.set_cons_succ]
                refine hSkip (i := 21) rfl (by kernel_rfl) (by kernel_rfl) (by kernel_rfl) (by rfl) hH ?_
                simp only [Act.put, List.setIfInBounds_toArray, List.set_cons_zero, List.set_cons_succ]
                refine hSkip (i := 22) rfl (by kernel_rfl) (by kernel_rfl) (by kernel_rfl) (by rfl) hH ?_
                simp only [Act.put, List.setIfInBounds_toArray, List.set_cons_zero, List.set_cons_succ]
                refine hSkip (i := 23) rfl (by kernel_rfl) (by kernel_rfl) (by kernel_rfl) (by rfl) hH ?_
                simp only [Act.put, List.setIfInBounds_toArray, List.set_cons_zero, List.set_cons_succ]
                refine hTake (i := 24) (v := ?_) rfl (by kernel_rfl) (by kernel_rfl) (by kernel_rfl) (by rfl) ?_ hH ?_
                rotate_left
                · intro W hW; (try dsimp only at hW); go_simp <;> with_reducible rfl
                simp only [Act.put, List.setIfInBounds_toArray, List.set_cons_zero, List.set_cons_succ]
                refine wpAnyH_done (by kernel_rfl) ?_ _
                refine NoPanic.normal ?_
                go_wp2
                go_roundw
                case rel => exact ⟨j + 1, m, g, c, by omega, by go_num, rfl, by rw [HWN.out]; exact owns_below own ((Below.refl _ _).drew), by omega, hH.2.2.2.2.2⟩
                case measure => simp [intOf]; omega
              have e1 : (rt != qt) = true := by simpa using h1
              clear h1
              cases f
              · replace HWY := hid (HWY.out (by rw [e1]; rfl))
                clear HWN
                go_wp2_with fail
                refine wp_region_noPanic ?_
                refine wp_region_held_drew (S := fun W' => W'.cell? ⟨b, off + I * 3 + 1, none⟩ = some (.slice (some ⟨hb, ho, none⟩) nh ch) ∧ W'.cell? ⟨PX, 0, none⟩ = some (.int .i64 qt) ∧ W'.cell? ⟨PX, 1, none⟩ = some (.int .i64 qm) ∧ W'.cell? ⟨hb, ho + j * 2, none⟩ = some (.int .i64 rt) ∧ W'.cell? ⟨hb, ho + j * 2 + 1, none⟩ = some (.int .i64 rm) ∧ Below X.heap.size X W') (by kernel_rfl) (⟨t1, y0, y1, r0, r1, hY.drew⟩) (fun hH => ?_)
                refine hTake (i := 0) (v := ?_) rfl (by kernel_rfl) (by kernel_rfl) (by kernel_rfl) (by rfl) ?_ hH ?_
                rotate_left
                · intro W hW; (try dsimp only at hW); go_simp <;> with_reducible rfl
                simp only [Act.put, List.setIfInBounds_toArray, List.set_cons_zero, List.set_cons_succ]
                refine hTake (i := 1) (v := ?_) rfl (by kernel_rfl) (by kernel_rfl) (by kernel_rfl) (by rfl) ?_ hH ?_
                rotate_left
                · intro W hW; (try dsimp only at hW); go_simp <;> with_reducible rfl
                simp only [Act.put, List.setIfInBounds_toArray, List.set_cons_zero, List.set_cons_succ]
                refine hTake (i := 2) (v := ?_) rfl (by kernel_rfl) (by kernel_rfl) (by kernel_rfl) (by rfl) ?_ hH ?_
                rotate_left
                · intro W hW; (try dsimp only at hW); go_simp <;> with_reducible rfl
                simp only [Act.put, List.setIfInBounds_toArray, List.set_cons_zero, List.set_cons_succ]
                refine hTake (i := 3) (v := ?_) rfl (by kernel_rfl) (by kernel_rfl) (by kernel_rfl) (by rfl) ?_ hH ?_
                rotate_left
                · intro W hW; (try dsimp only at hW); go_simp <;> with_reducible rfl
                simp only [Act.put, List.setIfInBounds_toArray, List.set_cons_zero, List.set_cons_succ]
                refine hTake (i := 4) (v := ?_) rfl (by kernel_rfl) (by kernel_rfl) (by kernel_rfl) (by rfl) ?_ hH ?_
                rotate_left
                · intro W hW; (try dsimp only at hW); go_simp <;> with_reducible rfl
                simp only [Act.put, List.setIfInBounds_toArray, List.set_cons_zero, List.set_cons_succ]
                refine hTake (i := 5) (v := ?_) rfl (by kernel_rfl) (by kernel_rfl) (by kernel_rfl) (by rfl) ?_ hH ?_
                rotate_left
                · intro W hW; (try dsimp only at hW); go_simp <;> with_reducible rfl
                simp only [Act.put, List.setIfInBounds_toArray, List.set_cons_zero, List.set_cons_succ]
                refine hTake (i := 6) (v := ?_) rfl (by kernel_rfl) (by kernel_rfl) (by kernel_rfl) (by rfl) ?_ hH ?_
                rotate_left
                · intro W hW; (try dsimp only at hW); go_simp <;> with_reducible rfl
                simp only [Act.put, List.setIfInBounds_toArray, List.set_cons_zero, List.set_cons_succ]
                refine hTake (i := 7) (v := ?_) rfl (by kernel_rfl) (by kernel_rfl) (by kernel_rfl) (by rfl) ?_ hH ?_
                rotate_left
                · intro W hW; (try dsimp only at hW); go_simp <;> with_reducible rfl
                simp only [Act.put, List.setIfInBounds_toArray, List.set_cons_zero, List.set_cons_succ]
                refine hTake (i := 8) (v := ?_) rfl (by kernel_rfl) (by kernel_rfl) (by kernel_rfl) (by rfl) ?_ hH ?_
                rotate_left
                · intro W hW; (try dsimp only at hW); go_simp <;> with_reducible rfl
                simp only [Act.put, List.setIfInBounds_toArray, List.set_cons_zero, List.set_cons_succ]
                refine hTake (i := 9) (v := ?_) rfl (by kernel_rfl) (by kernel_rfl) (by kernel_rfl) (by rfl) ?_ hH ?_
                rotate_left
                · intro W hW; (try dsimp only at hW); go_simp <;> with_reducible rfl
                simp only [Act.put, List.setIfInBounds_toArray, List.set_cons_zero, List.set_cons_succ]
                refine hTake (i := 10) (v := ?_) rfl (by kernel_rfl) (by kernel_rfl) (by kernel_rfl) (by rfl) ?_ hH ?_
                rotate_left
                · intro W hW; (try dsimp only at hW); go_simp <;> with_reducible rfl
                simp only [Act.put, List.setIfInBounds_toArray, List.set_cons_zero, List.set_cons_succ]
                refine hTake (i := 11) (v := ?_) rfl (by kernel_rfl) (by kernel_rfl) (by kernel_rfl) (by rfl) ?_ hH ?_
                rotate_left
                · intro W hW; (try dsimp only at hW); go_simp <;> with_reducible rfl
                simp only [Act.put, List.setIfInBounds_toArray, List.set_cons_zero, List.set_cons_succ]
                refine hTake (i := 12) (v := ?_) rfl (by kernel_rfl) (by kernel_rfl) (by kernel_rfl) (by rfl) ?_ hH ?_
                rotate_left
                · intro W hW; (try dsimp only at hW); go_simp <;> with_reducible rfl
                simp only [Act.put, List.setIfInBounds_toArray, List.set_cons_zero, List.set_cons_succ]
                refine hTake (i := 13) (v := ?_) rfl (by kernel_rfl) (by kernel_rfl) (by kernel_rfl) (by rfl) ?_ hH ?_
                rotate_left
                · intro W hW; (try dsimp only at hW); go_simp <;> with_reducible rfl
                simp only [Act.put, List.setIfInBounds_toArray, List.set_cons_zero, List.set_cons_succ]
                refine hTake (i := 14) (v := ?_) rfl (by kernel_rfl) (by kernel_rfl) (by kernel_rfl) (by rfl) ?_ hH ?_
                rotate_left
                · intro W hW; (try dsimp only at hW); go_simp <;> with_reducible rfl
                simp only [Act.put, List.setIfInBounds_toArray, List.set_cons_zero, List.set_cons_succ]
                refine hTake (i := 15) (v := ?_) rfl (by kernel_rfl) (by kernel_rfl) (by kernel_rfl) (by rfl) ?_ hH ?_
                rotate_left
                · intro W hW; (try dsimp only at hW); go_simp <;> with_reducible rfl
                simp only [Act.put, List.setIfInBounds_toArray, List.set_cons_zero, List.set_cons_succ]
                refine hTake (i := 16) (v := ?_) rfl (by kernel_rfl) (by kernel_rfl) (by kernel_rfl) (by rfl) ?_ hH ?_
                rotate_left
                · intro W hW; (try dsimp only at hW); go_simp <;> with_reducible rfl
                simp only [Act.put, List.setIfInBounds_toArray, List.set_cons_zero, List.set_cons_succ]
                refine hTake (i := 17) (v := ?_) rfl (by kernel_rfl) (by kernel_rfl) (by kernel_rfl) (by rfl) ?_ hH ?_
                rotate_left
                · intro W hW; (try dsimp only at hW); go_simp <;> with_reducible rfl
                simp only [Act.put, List.setIfInBounds_toArray, List.set_cons_zero, List.set_cons_succ]
                refine hTake (i := 18) (v := ?_) rfl (by kernel_rfl) (by kernel_rfl) (by kernel_rfl) (by rfl) ?_ hH ?_
                rotate_left
                · intro W hW; (try dsimp only at hW); go_simp <;> with_reducible rfl
                simp only [Act.put, List.setIfInBounds_toArray, List.set_cons_zero, List.set_cons_succ]
                refine hTake (i := 19) (v := ?_) rfl (by kernel_rfl) (by kernel_rfl) (by kernel_rfl) (by rfl) ?_ hH ?_
                rotate_left
                · intro W hW; (try dsimp only at hW); go_simp <;> with_reducible rfl
                simp only [Act.put, List.setIfInBounds_toArray, List.set_cons_zero, List.set_cons_succ]
                refine hTake (i := 20) (v := ?_) rfl (by kernel_rfl) (by kernel_rfl) (by kernel_rfl) (by rfl) ?_ hH ?_
                rotate_left
                · intro W hW; (try dsimp only at hW); go_simp <;> with_reducible rfl
                simp only [Act.put, List.setIfInBounds_toArray, List.set_cons_zero, List.set_cons_succ]
                refine hTake (i := 21) (v := ?_) rfl (by kernel_rfl) (by kernel_rfl) (by kernel_rfl) (by rfl) ?_ hH ?_
                rotate_left
                · intro W hW; (try dsimp only at hW); go_simp <;> with_reducible rfl
                simp only [Act.put, List.setIfInBounds_toArray, List.set_cons_zero, List.set_cons_succ]
                refine wpAnyH_ready (rs := [22]) (by kernel_rfl) (by simp) ?_
                refine AllReadyH.cons rfl (fun K hK => ?_) AllReadyH.nil
                go_simp
                refine (IF _).mono ?_
                rintro e w2 ⟨rfl, rfl⟩
                go_wp2_with fail
                refine hK.out _ _ ?_ (fun hH => ?_)
                · exact hH
                clear hK K
                refine hTake (i := 23) (v := ?_) rfl (by kernel_rfl) (by kernel_rfl) (by kernel_rfl) (by rfl) ?_ hH ?_
                rotate_left
                · intro W hW; (try dsimp only at hW); go_simp <;> with_reducible rfl
                simp only [Act.put, List.setIfInBounds_toArray, List.set_cons_zero, List.set_cons_succ]
                refine hTake (i := 24) (v := ?_) rfl (by kernel_rfl) (by kernel_rfl) (by kernel_rfl) (by rfl) ?_ hH ?_
                rotate_left
                · intro W hW; (try dsimp only at hW); go_simp <;> with_reducible rfl
                simp only [Act.put, List.setIfInBounds_toArray, List.set_cons_zero, List.set_cons_succ]
                refine wpAnyH_done (by kernel_rfl) ?_ _
                refine NoPanic.normal ?_
                have ownD := owns_below own ((Below.refl wy.heap.size wy).drew)
                have hm1 : m ≤ 1048576 := by omega
                clear own r0 r1 t1 t2 y0 y1 hY hXY
                go_wp2_with fail
                generalize wy.drew = Y at *
                refine wp_region_noPanic ?_
                refine wp_region_held_drew (S := fun W' => W'.cell? ⟨b, off + I * 3 + 1, none⟩ = some (.slice (some ⟨hb, ho, none⟩) nh ch) ∧ W'.cell? ⟨PX, 0, none⟩ = some (.int .i64 qt) ∧ W'.cell? ⟨PX, 1, none⟩ = some (.int .i64 qm) ∧ W'.cell? ⟨hb, ho + j * 2, none⟩ = some (.int .i64 rt) ∧ W'.cell? ⟨hb, ho + j * 2 + 1, none⟩ = some (.int .i64 rm) ∧ Below X.heap.size X W') (by kernel_rfl) (⟨hH.1, hH.2.1, hH.2.2.1, hH.2.2.2.1, hH.2.2.2.2.1, hH.2.2.2.2.2.drew⟩) (fun hH => ?_)
                refine hTake (i := 0) (v := ?_) rfl (by kernel_rfl) (by kernel_rfl) (by kernel_rfl) (by rfl) ?_ hH ?_
                rotate_left
                · intro W hW; (try dsimp only at hW); go_simp <;> with_reducible rfl
                simp only [Act.put, List.setIfInBounds_toArray, List.set_cons_zero, List.set_cons_succ]
                refine hTake (i := 1) (v := ?_) rfl (by kernel_rfl) (by kernel_rfl) (by kernel_rfl) (by rfl) ?_ hH ?_
                rotate_left
                · intro W hW; (try dsimp only at hW); go_simp <;> with_reducible rfl
                simp only [Act.put, List.setIfInBounds_toArray, List.set_cons_zero, List.set_cons_succ]
                refine hTake (i := 2) (v := ?_) rfl (by kernel_rfl) (by kernel_rfl) (by kernel_rfl) (by rfl) ?_ hH ?_
                rotate_left
                · intro W hW; (try dsimp only at hW); go_simp <;> with_reducible rfl
                simp only [Act.put, List.setIfInBounds_toArray, List.set_cons_zero, List.set_cons_succ]
                refine hTake (i := 3) (v := ?_) rfl (by kernel_rfl) (by kernel_rfl) (by kernel_rfl) (by rfl) ?_ hH ?_
                rotate_left
                · intro W hW; (try dsimp only at hW); go_simp <;> with_reducible rfl
                simp only [Act.put, List.setIfInBounds_toArray, List.set_cons_zero, List.set_cons_succ]
                refine hTake (i := 4) (v := ?_) rfl (by kernel_rfl) (by kernel_rfl) (by kernel_rfl) (by rfl) ?_ hH ?_
                rotate_left
                · intro W hW; (try dsimp only at hW); go_simp <;> with_reducible rfl
                simp only [Act.put, List.setIfInBounds_toArray, List.set_cons_zero, List.set_cons_succ]
                refine hTake (i := 5) (v := ?_) rfl (by kernel_rfl) (by kernel_rfl) (by kernel_rfl) (by rfl) ?_ hH ?_
                rotate_left
                · intro W hW; (try dsimp only at hW); go_simp <;> with_reducible rfl
                simp only [Act.put, List.setIfInBounds_toArray, List.set_cons_zero, List.set_cons_succ]
                refine hTake (i := 6) (v := ?_) rfl (by kernel_rfl) (by kernel_rfl) (by kernel_rfl) (by rfl) ?_ hH ?_
                rotate_left
                · intro W hW; (try dsimp only at hW); go_simp <;> with_reducible rfl
                simp only [Act.put, List.setIfInBounds_toArray, List.set_cons_zero, List.set_cons_succ]
                refine hTake (i := 7) (v := ?_) rfl (by kernel_rfl) (by kernel_rfl) (by kernel_rfl) (by rfl) ?_ hH ?_
                rotate_left
                · intro W hW; (try dsimp only at hW); go_simp <;> with_reducible rfl
                simp only [Act.put, List.setIfInBounds_toArray, List.set_cons_zero, List.set_cons_succ]
                refine hTake (i := 8) (v := ?_) rfl (by kernel_rfl) (by kernel_rfl) (by kernel_rfl) (by rfl) ?_ hH ?_
                rotate_left
                · intro W hW; (try dsimp only at hW); go_simp <;> with_reducible rfl
                simp only [Act.put, List.setIfInBounds_toArray, List.set_cons_zero, List.set_cons_succ]
                refine hTake (i := 9) (v := ?_) rfl (by kernel_rfl) (by kernel_rfl) (by kernel_rfl) (by rfl) ?_ hH ?_
                rotate_left
                · intro W hW; (try dsimp only at hW); go_simp <;> with_reducible rfl
                simp only [Act.put, List.setIfInBounds_toArray, List.set_cons_zero, List.set_cons_succ]
                refine hTake (i := 10) (v := ?_) rfl (by kernel_rfl) (by kernel_rfl) (by kernel_rfl) (by rfl) ?_ hH ?_
                rotate_left
                · intro W hW; (try dsimp only at hW); go_simp <;> with_reducible rfl
                simp only [Act.put, List.setIfInBounds_toArray, List.set_cons_zero, List.set_cons_succ]
                refine hTake (i := 11) (v := ?_) rfl (by kernel_rfl) (by kernel_rfl) (by kernel_rfl) (by rfl) ?_ hH ?_
                rotate_left
                · intro W hW; (try dsimp only at hW); go_simp <;> with_reducible rfl
                simp only [Act.put, List.setIfInBounds_toArray, List.set_cons_zero, List.set_cons_succ]
                refine wpAnyH_ready (rs := [12]) (by kernel_rfl) (by simp) ?_
                refine AllReadyH.cons rfl (fun K hK => ?_) AllReadyH.nil
                have ownE := owns_below ownD ((Below.refl Y.heap.size Y).drew)
                have hB9 : W0 ≤ Y.drew.heap.size := by have := (owns_lt ownE g rfl); omega
                go_simp
                refine (l7Put_any W0 g m c _ qt rt _ ownE hm1 hB9).mono ?_
                rintro e w9 ⟨g9, m9, c9, rfl, own9, hm9, b9⟩
                go_wp2_with fail
                refine hK.out _ _ ?_ (fun hH => ?_)
                · exact ⟨keep_cell b9 hH.1, keep_cell b9 hH.2.1, keep_cell b9 hH.2.2.1, keep_cell b9 hH.2.2.2.1, keep_cell b9 hH.2.2.2.2.1, hH.2.2.2.2.2.trans (b9.mono hH.2.2.2.2.2.size)⟩
                clear hK K
                refine hTake (i := 13) (v := ?_) rfl (by kernel_rfl) (by kernel_rfl) (by kernel_rfl) (by rfl) ?_ hH ?_
                rotate_left
                · intro W hW; (try dsimp only at hW); go_simp <;> with_reducible rfl
                simp only [Act.put, List.setIfInBounds_toArray, List.set_cons_zero, List.set_cons_succ]
                refine wpAnyH_done (by kernel_rfl) ?_ _
                refine NoPanic.normal ?_
                go_wp2
                go_roundw
                case rel => exact ⟨j + 1, m9, g9, c9, by omega, by go_num, rfl, by rw [HWY.out, ← List.append_assoc, Ch.sortE_snoc]; exact own9, by omega, hH.2.2.2.2.2⟩
                case measure => simp [intOf]; omega
              · replace HWN := hid (HWN.out (by rw [e1]; rfl))
                clear HWY
                go_wp2_with fail
                refine wp_region_noPanic ?_
                refine wp_region_held_drew (S := fun W' => W'.cell? ⟨b, off + I * 3 + 1, none⟩ = some (.slice (some ⟨hb, ho, none⟩) nh ch) ∧ W'.cell? ⟨PX, 0, none⟩ = some (.int .i64 qt) ∧ W'.cell? ⟨PX, 1, none⟩ = some (.int .i64 qm) ∧ W'.cell? ⟨hb, ho + j * 2, none⟩ = some (.int .i64 rt) ∧ W'.cell? ⟨hb, ho + j * 2 + 1, none⟩ = some (.int .i64 rm) ∧ Below X.heap.size X W') (by kernel_rfl) (⟨t1, y0, y1, r0, r1, hY.drew⟩) (fun hH => ?_)
                refine hTake (i := 0) (v := ?_) rfl (by kernel_rfl) (by kernel_rfl) (by kernel_rfl) (by rfl) ?_ hH ?_
                rotate_left
                · intro W hW; (try dsimp only at hW); go_simp <;> with_reducible rfl
                simp only [Act.put, List.setIfInBounds_toArray, List.set_cons_zero, List.set_cons_succ]
                refine hTake (i := 1) (v := ?_) rfl (by kernel_rfl) (by kernel_rfl) (by kernel_rfl) (by rfl) ?_ hH ?_
                rotate_left
                · intro W hW; (try dsimp only at hW); go_simp <;> with_reducible rfl
                simp only [Act.put, List.setIfInBounds_toArray, List.set_cons_zero, List.set_cons_succ]
                refine hTake (i := 2) (v := ?_) rfl (by kernel_rfl) (by kernel_rfl) (by kernel_rfl) (by rfl) ?_ hH ?_
                rotate_left
                · intro W hW; (try dsimp only at hW); go_simp <;> with_reducible rfl
                simp only [Act.put, List.setIfInBounds_toArray, List.set_cons_zero, List.set_cons_succ]
                refine hTake (i := 3) (v := ?_) rfl (by kernel_rfl) (by kernel_rfl) (by kernel_rfl) (by rfl) ?_ hH ?_
                rotate_left
                · intro W hW; (try dsimp only at hW); go_simp <;> with_reducible rfl
                simp only [Act.put, List.setIfInBounds_toArray, List.set_cons_zero, List.set_cons_succ]
                refine hTake (i := 4) (v := ?_) rfl (by kernel_rfl) (by kernel_rfl) (by kernel_rfl) (by rfl) ?_ hH ?_
                rotate_left
                · intro W hW; (try dsimp only at hW); go_simp <;> with_reducible rfl
                simp only [Act.put, List.setIfInBounds_toArray, List.set_cons_zero, List.set_cons_succ]
                refine hTake (i := 5) (v := ?_) rfl (by kernel_rfl) (by kernel_rfl) (by kernel_rfl) (by rfl) ?_ hH ?_
                rotate_left
                · intro W hW; (try dsimp only at hW); go_simp <;> with_reducible rfl
                simp only [Act.put, List.setIfInBounds_toArray, List.set_cons_zero, List.set_cons_succ]
                refine hTake (i := 6) (v := ?_) rfl (by kernel_rfl) (by kernel_rfl) (by kernel_rfl) (by rfl) ?_ hH ?_
                rotate_left
                · intro W hW; (try dsimp only at hW); go_simp <;> with_reducible rfl
                simp only [Act.put, List.setIfInBounds_toArray, List.set_cons_zero, List.set_cons_succ]
                refine hTake (i := 7) (v := ?_) rfl (by kernel_rfl) (by kernel_rfl) (by kernel_rfl) (by rfl) ?_ hH ?_
                rotate_left
                · intro W hW; (try dsimp only at hW); go_simp <;> with_reducible rfl
                simp only [Act.put, List.setIfInBounds_toArray, List.set_cons_zero, List.set_cons_succ]
                refine hTake (i := 8) (v := ?_) rfl (by kernel_rfl) (by kernel_rfl) (by kernel_rfl) (by rfl) ?_ hH ?_
                rotate_left
                · intro W hW; (try dsimp only at hW); go_simp <;> with_reducible rfl
                simp only [Act.put, List.setIfInBounds_toArray, List.set_cons_zero, List.set_cons_succ]
                refine hTake (i := 9) (v := ?_) rfl (by kernel_rfl) (by kernel_rfl) (by kernel_rfl) (by rfl) ?_ hH ?_
                rotate_left
                · intro W hW; (try dsimp only at hW); go_simp <;> with_reducible rfl
                simp only [Act.put, List.setIfInBounds_toArray, List.set_cons_zero, List.set_cons_succ]
                refine hTake (i := 10) (v := ?_) rfl (by kernel_rfl) (by kernel_rfl) (by kernel_rfl) (by rfl) ?_ hH ?_
                rotate_left
                · intro W hW; (try dsimp only at hW); go_simp <;> with_reducible rfl
                simp only [Act.put, List.setIfInBounds_toArray, List.set_cons_zero, List.set_cons_succ]
                refine hTake (i := 11) (v := ?_) rfl (by kernel_rfl) (by kernel_rfl) (by kernel_rfl) (by rfl) ?_ hH ?_
                rotate_left
                · intro W hW; (try dsimp only at hW); go_simp <;> with_reducible rfl
                simp only [Act.put, List.setIfInBounds_toArray, List.set_cons_zero, List.set_cons_succ]
                refine hTake (i := 12) (v := ?_) rfl (by kernel_rfl) (by kernel_rfl) (by kernel_rfl) (by rfl) ?_ hH ?_
                rotate_left
                · intro W hW; (try dsimp only at hW); go_simp <;> with_reducible rfl
                simp only [Act.put, List.setIfInBounds_toArray, List.set_cons_zero, List.set_cons_succ]
                refine hTake (i := 13) (v := ?_) rfl (by kernel_rfl) (by kernel_rfl) (by kernel_rfl) (by rfl) ?_ hH ?_
                rotate_left
                · intro W hW; (try dsimp only at hW); go_simp <;> with_reducible rfl
                simp only [Act.put, List.setIfInBounds_toArray, List.set_cons_zero, List.set_cons_succ]
                refine hTake (i := 14) (v := ?_) rfl (by kernel_rfl) (by kernel_rfl) (by kernel_rfl) (by rfl) ?_ hH ?_
                rotate_left
                · intro W hW; (try dsimp only at hW); go_simp <;> with_reducible rfl
                simp only [Act.put, List.setIfInBounds_toArray, List.set_cons_zero, List.set_cons_succ]
                refine hTake (i := 15) (v := ?_) rfl (by kernel_rfl) (by kernel_rfl) (by kernel_rfl) (by rfl) ?_ hH ?_
                rotate_left
                · intro W hW; (try dsimp only at hW); go_simp <;> with_reducible rfl
                simp only [Act.put, List.setIfInBounds_toArray, List.set_cons_zero, List.set_cons_succ]
                refine hTake (i := 16) (v := ?_) rfl (by kernel_rfl) (by kernel_rfl) (by kernel_rfl) (by rfl) ?_ hH ?_
                rotate_left
                · intro W hW; (try dsimp only at hW); go_simp <;> with_reducible rfl
                simp only [Act.put, List.setIfInBounds_toArray, List.set_cons_zero, List.set_cons_succ]
                refine hTake (i := 17) (v := ?_) rfl (by kernel_rfl) (by kernel_rfl) (by kernel_rfl) (by rfl) ?_ hH ?_
                rotate_left
                · intro W hW; (try dsimp only at hW); go_simp <;> with_reducible rfl
                simp only [Act.put, List.setIfInBounds_toArray, List.set_cons_zero, List.set_cons_succ]
                refine hTake (i := 18) (v := ?_) rfl (by kernel_rfl) (by kernel_rfl) (by kernel_rfl) (by rfl) ?_ hH ?_
                rotate_left
                · intro W hW; (try dsimp only at hW); go_simp <;> with_reducible rfl
                simp only [Act.put, List.setIfInBounds_toArray, List.set_cons_zero, List.set_cons_succ]
                refine hTake (i := 19) (v := ?_) rfl (by kernel_rfl) (by kernel_rfl) (by kernel_rfl) (by rfl) ?_ hH ?_
                rotate_left
                · intro W hW; (try dsimp only at hW); go_simp <;> with_reducible rfl
                simp only [Act.put, List.setIfInBounds_toArray, List.set_cons_zero, List.set_cons_succ]
                refine hTake (i := 20) (v := ?_) rfl (by kernel_rfl) (by kernel_rfl) (by kernel_rfl) (by rfl) ?_ hH ?_
                rotate_left
                · intro W hW; (try dsimp only at hW); go_simp <;> with_reducible rfl
                simp only [Act.put, List.setIfInBounds_toArray, List.set_cons_zero, List.set_cons_succ]
                refine hTake (i := 21) (v := ?_) rfl (by kernel_rfl) (by kernel_rfl) (by kernel_rfl) (by rfl) ?_ hH ?_
                rotate_left
                · intro W hW; (try dsimp only at hW); go_simp <;> with_reducible rfl
                simp only [Act.put, List.setIfInBounds_toArray, List.set_cons_zero, List.set_cons_succ]
                refine wpAnyH_ready (rs := [22]) (by kernel_rfl) (by simp) ?_
                refine AllReadyH.cons rfl (fun K hK => ?_) AllReadyH.nil
                go_simp
                refine (IF _).mono ?_
                rintro e w2 ⟨rfl, rfl⟩
                go_wp2_with fail
                refine hK.out _ _ ?_ (fun hH => ?_)
                · exact hH
                clear hK K
                refine hTake (i := 23) (v := ?_) rfl (by kernel_rfl) (by kernel_rfl) (by kernel_rfl) (by rfl) ?_ hH ?_
                rotate_left
                · intro W hW; (try dsimp only at hW); go_simp <;> with_reducible rfl
                simp only [Act.put, List.setIfInBounds_toArray, List.set_cons_zero, List.set_cons_succ]
                refine hTake (i := 24) (v := ?_) rfl (by kernel_rfl) (by kernel_rfl) (by kernel_rfl) (by rfl) ?_ hH ?_
                rotate_left
                · intro W hW; (try dsimp only at hW); go_simp <;> with_reducible rfl
                simp only [Act.put, List.setIfInBounds_toArray, List.set_cons_zero, List.set_cons_succ]
                refine wpAnyH_done (by kernel_rfl) ?_ _
                refine NoPanic.normal ?_
                go_wp2
                go_roundw
                case rel => exact ⟨j + 1, m, g, c, by omega, by go_num, rfl, by rw [HWN.out]; exact owns_below own ((Below.refl _ _).drew), by omega, hH.2.2.2.2.2⟩
                case measure => simp [intOf]; omega
            · obtain rfl : j = nh := by omega
              have HTK : Hid (hs.take j = hs) := by have := HH.out; show _ = _; rw [this]; exact List.take_length
              rw [HTK.out] at own
              have ha0 : Hid (A0 ++ QE k ++ Ch.waitE ⟨qt, qm⟩ hs ++ Ch.aheadE ⟨qt, qm⟩ (qs.take 0) = A0 ++ QE k ++ Ch.waitE ⟨qt, qm⟩ hs) := by show _ = _; simp [Ch.aheadE]
              obtain ⟨A1, HA1⟩ : ∃ A1, Hid (A0 ++ QE k ++ Ch.waitE ⟨qt, qm⟩ hs = A1) := ⟨_, rfl⟩
              rw [HA1.out] at own ha0
              go_wp2
              go_loopw [3, 9] (fun q i wz => ∃ (d m g c : Nat), d ≤ k ∧ i = .int .i64 d ∧ q = .slice (some ⟨g, 0, none⟩) m c ∧ wz.ownsRow W0 50 2 (.slice (some ⟨g, 0, none⟩) m c) m (hcells (Ch.sortE (A1 ++ Ch.aheadE ⟨qt, qm⟩ (qs.take d)))) ∧ m ≤ 800 * I + 40 * k + 20 + d ∧ Below wy.heap.size wy wz) (fun _ i _ => k - (intOf i).toNat)
              case atStart => exact ⟨0, m, g, c, Nat.zero_le _, rfl, rfl, by rw [ha0.out]; exact own, by omega, Below.refl _ _⟩
              case round =>
                clear own hm ha0
                obtain ⟨d, m, g, c, hd, rfl, rfl, own, hm, hZ⟩ := hrel
                generalize wr = wz at *
                by_cases hld : d < k
                · have hdl : d < qs.length := by omega
                  have hdn : d < nq := by omega
                  have HAH := hid (Ch.aheadE_next (q := ⟨qt, qm⟩) hdl)
                  obtain ⟨db, dd, hde, r0, r1⟩ := ((h4.below hXY).below hZ).hold (show d < nq by omega)
                  simp only [Option.some.injEq, Addr.mk.injEq, and_true] at hde
                  obtain ⟨rfl, rfl⟩ := hde
                  have hhb := lt_of_cell r0
                  generalize qs.getD d Ch.Hold.zero = hh at *
                  obtain ⟨rt, rm⟩ := hh
                  simp only at r0 r1 HAH
                  have u2 := keep_cell hZ t2
                  have v0 := keep_cell hZ y0
                  have lu := lt_of_cell u2
                  have lv := lt_of_cell v0
                  have hm1 : m ≤ 1048576 := by omega
                  have ownD := owns_below own ((Below.refl wz.heap.size wz).drew)
                  clear own
                  go_wp2_with fail
                  refine wp_region_noPanic ?_
                  refine wp_region_held_drew (S := fun W' => W'.cell? ⟨b, off + I * 3 + 2, none⟩ = some (.slice (some ⟨qb, qo, none⟩) nq cq) ∧ W'.cell? ⟨PX, 0, none⟩ = some (.int .i64 qt) ∧ W'.cell? ⟨qb, qo + d * 2, none⟩ = some (.int .i64 rt) ∧ Below wy.heap.size wy W') (by kernel_rfl) (⟨u2, v0, r0, hZ.drew⟩) (fun hH => ?_)
                  refine hTake (i := 0) (v := ?_) rfl (by kernel_rfl) (by kernel_rfl) (by kernel_rfl) (by rfl) ?_ hH ?_
                  rotate_left
                  · intro W hW; (try dsimp only at hW); go_simp <;> with_reducible rfl
                  simp only [Act.put, List.setIfInBounds_toArray, List.set_cons_zero, List.set_cons_succ]
                  refine hTake (i := 1) (v := ?_) rfl (by kernel_rfl) (by kernel_rfl) (by kernel_rfl) (by rfl) ?_ hH ?_
                  rotate_left
                  · intro W hW; (try dsimp only at hW); go_simp <;> with_reducible rfl
                  simp only [Act.put, List.setIfInBounds_toArray, List.set_cons_zero, List.set_cons_succ]
                  refine hTake (i := 2) (v := ?_) rfl (by kernel_rfl) (by kernel_rfl) (by kernel_rfl) (by rfl) ?_ hH ?_
                  rotate_left
                  · intro W hW; (try dsimp only at hW); go_simp <;> with_reducible rfl
                  simp only [Act.put, List.setIfInBounds_toArray, List.set_cons_zero, List.set_cons_succ]
                  refine hTake (i := 3) (v := ?_) rfl (by kernel_rfl) (by kernel_rfl) (by kernel_rfl) (by rfl) ?_ hH ?_
                  rotate_left
                  · intro W hW; (try dsimp only at hW); go_simp <;> with_reducible rfl
                  simp only [Act.put, List.setIfInBounds_toArray, List.set_cons_zero, List.set_cons_succ]
                  refine hTake (i := 4) (v := ?_) rfl (by kernel_rfl) (by kernel_rfl) (by kernel_rfl) (by rfl) ?_ hH ?_
                  rotate_left
                  · intro W hW; (try dsimp only at hW); go_simp <;> with_reducible rfl
                  simp only [Act.put, List.setIfInBounds_toArray, List.set_cons_zero, List.set_cons_succ]
                  refine hTake (i := 5) (v := ?_) rfl (by kernel_rfl) (by kernel_rfl) (by kernel_rfl) (by rfl) ?_ hH ?_
                  rotate_left
                  · intro W hW; (try dsimp only at hW); go_simp <;> with_reducible rfl
                  simp only [Act.put, List.setIfInBounds_toArray, List.set_cons_zero, List.set_cons_succ]
                  refine hTake (i := 6) (v := ?_) rfl (by kernel_rfl) (by kernel_rfl) (by kernel_rfl) (by rfl) ?_ hH ?_
                  rotate_left
                  · intro W hW; (try dsimp only at hW); go_simp <;> with_reducible rfl
                  simp only [Act.put, List.setIfInBounds_toArray, List.set_cons_zero, List.set_cons_succ]
                  refine hTake (i := 7) (v := ?_) rfl (by kernel_rfl) (by kernel_rfl) (by kernel_rfl) (by rfl) ?_ hH ?_
                  rotate_left
                  · intro W hW; (try dsimp only at hW); go_simp <;> with_reducible rfl
                  simp only [Act.put, List.setIfInBounds_toArray, List.set_cons_zero, List.set_cons_succ]
                  refine hTake (i := 8) (v := ?_) rfl (by kernel_rfl) (by kernel_rfl) (by kernel_rfl) (by rfl) ?_ hH ?_
                  rotate_left
                  · intro W hW; (try dsimp only at hW); go_simp <;> with_reducible rfl
                  simp only [Act.put, List.setIfInBounds_toArray, List.set_cons_zero, List.set_cons_succ]
                  refine hTake (i := 9) (v := ?_) rfl (by kernel_rfl) (by kernel_rfl) (by kernel_rfl) (by rfl) ?_ hH ?_
                  rotate_left
                  · intro W hW; (try dsimp only at hW); go_simp <;> with_reducible rfl
                  simp only [Act.put, List.setIfInBounds_toArray, List.set_cons_zero, List.set_cons_succ]
                  refine hTake (i := 10) (v := ?_) rfl (by kernel_rfl) (by kernel_rfl) (by kernel_rfl) (by rfl) ?_ hH ?_
                  rotate_left
                  · intro W hW; (try dsimp only at hW); go_simp <;> with_reducible rfl
                  simp only [Act.put, List.setIfInBounds_toArray, List.set_cons_zero, List.set_cons_succ]
                  refine hTake (i := 11) (v := ?_) rfl (by kernel_rfl) (by kernel_rfl) (by kernel_rfl) (by rfl) ?_ hH ?_
                  rotate_left
                  · intro W hW; (try dsimp only at hW); go_simp <;> with_reducible rfl
                  simp only [Act.put, List.setIfInBounds_toArray, List.set_cons_zero, List.set_cons_succ]
                  refine wpAnyH_ready (rs := [12]) (by kernel_rfl) (by simp) ?_
                  refine AllReadyH.cons rfl (fun K hK => ?_) AllReadyH.nil
                  have hB9 : W0 ≤ wz.drew.heap.size := by have := (owns_lt ownD g rfl); omega
                  go_simp
                  refine (l7Put_any W0 g m c _ qt rt _ ownD hm1 hB9).mono ?_
                  rintro e w9 ⟨g9, m9, c9, rfl, own9, hm9, b9⟩
                  go_wp2_with fail
                  refine hK.out _ _ ?_ (fun hH => ?_)
                  · exact ⟨keep_cell b9 hH.1, keep_cell b9 hH.2.1, keep_cell b9 hH.2.2.1, hH.2.2.2.trans (b9.mono hH.2.2.2.size)⟩
                  clear hK K
                  refine hTake (i := 13) (v := ?_) rfl (by kernel_rfl) (by kernel_rfl) (by kernel_rfl) (by rfl) ?_ hH ?_
                  rotate_left
                  · intro W hW; (try dsimp only at hW); go_simp <;> with_reducible rfl
                  simp only [Act.put, List.setIfInBounds_toArray, List.set_cons_zero, List.set_cons_succ]
                  refine wpAnyH_done (by kernel_rfl) ?_ _
                  refine NoPanic.normal ?_
                  go_wp2
                  go_roundw
                  case rel => exact ⟨d + 1, m9, g9, c9, by omega, by go_num, rfl, by rw [HAH.out, ← List.append_assoc, Ch.sortE_snoc]; exact own9, by omega, hH.2.2.2⟩
                  case measure => simp [intOf]; omega
                · obtain rfl : d = k := by omega
                  go_wp2
                  go_roundw
                  case rel => exact ⟨d + 1, m, g, c, by omega, by go_num, rfl, by rw [HQK.out]; rw [← HA1.out] at own; simpa only [List.append_assoc] using own, by omega, hXY.trans (hZ.mono hXY.size)⟩
                  case measure => simp [intOf]; omega
        · obtain rfl : k = nq := by omega
          go_wp2
          go_roundw
          case rel => exact ⟨I + 1, m, g, c, by omega, by go_num, rfl, by rw [HAN.out, ← HQ.out]; exact own, by omega, hB.trans (hX.mono hB.size)⟩
          case measure => simp [intOf]; omega
    · obtain rfl : I = n := by omega
      have HTK : Hid (ls.take I = ls) := by have := HL.out; show _ = _; rw [this]; exact List.take_length
      rw [HTK.out] at own
      go_wp2
      go_ret
      exact ⟨g, m, c, rfl, by omega, hW0 ▸ own, hB⟩
end Go.Proofs.Ytbeolkklnlljcaa
