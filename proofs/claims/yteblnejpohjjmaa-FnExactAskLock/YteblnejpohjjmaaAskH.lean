/- l6Ask. -/
import Derived.Test.YteblnejpohjjmaaAskG
import Derived.Test.YteblnejpohjjmaaJoiL
namespace Go.Proofs.Yteblnejpohjjmaa
open Go.RowKit

theorem OwnK.setLow {T : TypeId} {W : World} {B b n : Nat} {v : Value} {ls : List Ch.Lock} {vs : List (Value × Value)} (hh : OwnK T W B v n ls vs) (hb : b < B) (i : Nat) (u : Value) : OwnK T (W.setCell ⟨b, i, none⟩ u) B v n ls vs :=
  ⟨hh.len, hh.vlen, ownsRow_setCell_below hh.row hb _, fun j p hp => ownsRow_setCell_below (hh.hs j p hp) hb _, fun j p hp => ownsRow_setCell_below (hh.qs j p hp) hb _, hh.apart⟩
def Ch.askX (ls : List Ch.Lock) (t r m : Int) : Int × Bool × List Ch.Lock := if (Ch.askAt ls t r m).2.1 != 0 then ((Ch.askAt ls t r m).2.1, false, []) else (0, (Ch.askAt ls t r m).1, Ch.askLs ls t r m)
theorem Ch.askX_no {ls : List Ch.Lock} {t r m : Int} {b : Bool} {l : Ch.Lock} (h : Ch.askOne (Ch.lkAt (Ch.withL r ls) (Ch.placeR r ls)) t m = (b, 2, l)) : Ch.askX ls t r m = (2, false, []) := by
  unfold Ch.askX Ch.askAt; rw [h]; rfl
theorem Ch.askX_ok {ls : List Ch.Lock} {t r m : Int} {b : Bool} {l : Ch.Lock} (h : Ch.askOne (Ch.lkAt (Ch.withL r ls) (Ch.placeR r ls)) t m = (b, 0, l)) : Ch.askX ls t r m = (0, b, Ch.askLs ls t r m) := by
  unfold Ch.askX Ch.askAt; rw [h]; rfl
theorem Ch.enter_end {l : Ch.Lock} {h : Ch.Hold} (hq : ¬ 20 ≤ l.qs.length) : Ch.enterL l l.qs.length h = (false, 0, ⟨l.r, l.hs, l.qs ++ [h]⟩) := by
  rw [Ch.enter_room hq]; simp

set_option linter.unusedSimpArgs false in
set_option maxRecDepth 20000 in
set_option maxHeartbeats 2000000 in
theorem l6Ask_any (a : Option Addr) (n cap : Nat) (t res mode : Int) (ls : List Ch.Lock) (w : World) (h : LkAt w a n ls) (hs : Ch.lkSize ls ≤ 1048576) (hg : Ch.locksFault ls = 0) (hm : Ch.inB mode 1 5 = true) :
    Calls Try.prog 54 #[.slice a n cap, .int .i64 t, .int .i64 res, .int .i64 mode] w fun e w' => ∃ a2 m2 c2, e = .returned (.agg #[.int .i64 (Ch.askX ls t res mode).1, .bool (Ch.askX ls t res mode).2.1, .slice none 0 0, .slice a2 m2 c2]) ∧ OwnLk 83 w' w.heap.size (.slice a2 m2 c2) m2 (Ch.askX ls t res mode).2.2 ∧ Below w.heap.size w w' := by
  have kA : ∀ o, Below w.heap.size w (w.alloc o) := fun o => (Below.refl _ _).alloc (Nat.le_refl _) o
  have HL := h.len
  have hn : n ≤ 1048576 := by unfold Ch.lkSize at hs; have := HL.out; omega
  have HPL := hid (Ch.with_len res ls).1
  have HWA := hid (Ch.with_at hg res)
  have HM := hid (Ch.held_isM hm)
  have HMB := hid hm
  obtain ⟨j0, gi0, gz0, gz1, gz2⟩ := info_parts Try.info110
  have HXN := hid (fun b l => Ch.askX_no (ls := ls) (t := t) (r := res) (m := mode) (b := b) (l := l))
  have HXO := hid (fun b l => Ch.askX_ok (ls := ls) (t := t) (r := res) (m := mode) (b := b) (l := l))
  obtain ⟨l, HLK⟩ : ∃ l, Hid (Ch.lkAt (Ch.withL res ls) (Ch.placeR res ls) = l) := ⟨_, rfl⟩
  rw [HLK.out] at HWA HXN HXO
  obtain ⟨r, lhs, lqs⟩ := l
  simp only at HWA
  have hszh : lhs.length ≤ 1048576 := by have := HWA.out.1; omega
  have hszq : lqs.length ≤ 1048576 := by have := HWA.out.2.1; omega
  have HNM := hid HWA.out.2.2.1
  clear hg hm
  rcases Ch.atH_cases lhs t with ⟨he, HAT, hmz⟩ | ⟨j, hj, HAT, he, hjt, hjm⟩
  · have HCF := hid (Ch.ask_end (l := ⟨r, lhs, lqs⟩) (t := t) (m := mode) (by simp only; rw [hmz]; exact Ch.cov_none HMB.out))
    have HCP := hid (Ch.ask_put (l := ⟨r, lhs, lqs⟩) (t := t) (m := mode) (by simp only; rw [hmz]; exact Ch.cov_none HMB.out))
    have HCX := hid (Ch.ask_full (l := ⟨r, lhs, lqs⟩) (t := t) (m := mode) (by simp only; rw [hmz]; exact Ch.cov_none HMB.out))
    have HPN := hid (Ch.putH_no (h := ⟨t, mode⟩) he)
    simp only at HCF HCP HCX
    rw [hmz, Ch.join_none HMB.out] at HCF HCP HCX
    rw [he] at HCP HCX
    clear hmz he
    go_enter Try.func54, Try.ntmps54
    go_wp2_with fail
    refine (l6Copy_any a n cap ls _ (h.below (kA _)) hs).mono ?_
    rintro e w2 ⟨o0, c2, rfl, ⟨vs2, own2⟩, b2⟩
    have hR2 := heap_below b2 (heap_alloc_new w _)
    have BW2 := below_box b2
    have lz0 : w.heap.size < (w.alloc (.cells #[.int .i64 0, .bool false, .slice none 0 0, .slice none 0 0] 29)).heap.size := by rw [World.size_alloc]; omega
    have hB2 := b2.size
    generalize (w.alloc (.cells #[.int .i64 0, .bool false, .slice none 0 0, .slice none 0 0] 29)).heap.size = B1 at *
    clear b2
    go_wp2_with fail
    refine (l6Place_any B1 o0 n c2 res ls vs2 _ own2 hn hB2).mono ?_
    rintro e w3 ⟨a3, m3, c3, rfl, ⟨vs3, own3⟩, b3⟩
    have hRU := heap_lower b3 lz0 hR2
    have BWU := BW2.trans (b3.mono (by omega))
    have hBU : B1 ≤ w3.heap.size := Nat.le_trans hB2 b3.size
    have hwl := lz0
    have lz := lz0
    have hk3 : Ch.placeR res ls < m3 := by have h1 := own3.len; have := HPL.out; omega
    obtain ⟨o, rfl⟩ := own3.rowAt hk3
    clear own2 b3 hB2 hR2 BW2
    obtain ⟨ah, ch, aq, cq, hp, c0, u1, u2, f1, f2, o1, o2, ne, nr, ob1, ob2⟩ := own3.one hk3
    have hr0 : Hid ((Ch.lkAt (Ch.withL res ls) (Ch.placeR res ls)).r = r) := by show _ = _; rw [HLK.out]
    rw [HLK.out] at hp c0 u1 u2 o1 o2 ne nr
    simp only at hp c0 u1 u2 o1 o2 ne nr
    have h3 := owns_cells o1
    have HLS : Hid (∀ x, Ch.askOne ⟨r, lhs, lqs⟩ t mode = x → Ch.askLs ls t res mode = (Ch.withL res ls).set (Ch.placeR res ls) x.2.2) := fun x hx => by show (Ch.withL res ls).set _ (Ch.askOne (Ch.lkAt (Ch.withL res ls) (Ch.placeR res ls)) t mode).2.2 = _; rw [HLK.out, hx]
    have HSM := hid (Ch.lk_same (Ch.withL res ls) (Ch.placeR res ls))
    rw [HLK.out] at HSM
    generalize Ch.placeR res ls = pl at *
    have ownU := own3
    clear own3
    generalize w3 = U0 at *
    have HAT := hid HAT
    go_wp2_with fail
    refine (l6At_any ah lhs.length ch t lhs _ h3 hszh).mono ?_
    rintro e w4 ⟨rfl, hw4⟩
    obtain rfl : U0 = w4 := hw4.symm
    rw [HAT.out]
    have kX : Below U0.heap.size U0 (U0.alloc (.cells #[.int .i64 t, .int .i64 mode] 110)) := (Below.refl _ _).alloc (Nat.le_refl _) _
    have z0 : (U0.alloc (.cells #[.int .i64 t, .int .i64 mode] 110)).cell? ⟨U0.heap.size, 0, none⟩ = some (.int .i64 t) := by simp [go_sem]
    have z1 : (U0.alloc (.cells #[.int .i64 t, .int .i64 mode] 110)).cell? ⟨U0.heap.size, 1, none⟩ = some (.int .i64 mode) := by simp [go_sem]
    have HBX : Hid (U0.heap.size ∉ (Value.slice (some ⟨o, 0, none⟩) m3 c3).ownBlock.toList ++ vs3.flatMap blks) := fun hmem => by
      rw [List.mem_append] at hmem
      rcases hmem with h2 | h2
      · have := (owns_lt ownU.row _ (by simpa using h2)).2; omega
      · obtain ⟨i, q, hq, hgq⟩ := flat_mem h2
        have := (ownU.bd hq hgq).2; omega
    replace u1 := keep_cell kX u1
    replace u2 := keep_cell kX u2
    replace f1 := ((bcell kX).2 o (pl * 3 + 1) ob2).trans f1
    replace f2 := ((bcell kX).2 o (pl * 3 + 2) ob2).trans f2
    replace o1 := owns_below o1 kX
    replace o2 := owns_below o2 kX
    replace h3 := h3.below kX
    replace ownU := ownU.below kX
    replace hRU := heap_below kX hRU
    replace BWU := BWU.trans (kX.mono BWU.size)
    replace hBU := Nat.le_trans hBU kX.size
    have hob : o ≠ U0.heap.size := fun e => HBX.out (List.mem_append.2 (.inl (by simp [Value.ownBlock, ← e])))
    clear kX c0 ob2
    by_cases hq0 : lqs.length = 0
    · have hqb : ((lqs.length : Int) == 0) = true := by rw [hq0]; rfl
      cases hft : Ch.fitsH lhs t mode
      · have HE := hid ((HCF.out (by rw [hft]; rfl)).trans (Ch.enter_end (l := ⟨r, lhs, lqs⟩) (by simp only; omega)))
        have HAX := hid (HXO.out _ _ HE.out)
        have HLX := hid (HLS.out _ HE.out)
        simp only at HLX
        have h20 : ¬ 20 ≤ lqs.length := by omega
        clear hq0
        go_wp2_with fail
        generalize U0.alloc (.cells #[.int .i64 t, .int .i64 mode] 110) = U at *
        generalize U0.heap.size = bx at *
        refine (l6Fits_any ah lhs.length ch t mode lhs _ h3 hszh HNM.out HM.out).mono ?_
        rintro e w5 ⟨rfl, hw5⟩
        obtain rfl : U = w5 := hw5.symm
        rw [hft]
        clear hqb
        go_wp2_with fail
        have BWV : Below w.heap.size w U.drew := BWU.drew
        have hRV : U.drew.heap[w.heap.size]? = _ := hRU
        have own := ownU.below ((Below.refl _ _).drew : Below U.heap.size U U.drew)
        have hB1 : B1 ≤ U.drew.heap.size := hBU
        replace z0 : U.drew.cell? ⟨bx, 0, none⟩ = _ := z0
        replace z1 : U.drew.cell? ⟨bx, 1, none⟩ = _ := z1
        replace u1 : U.drew.cell? ⟨o, pl * 3 + 1, none⟩ = _ := u1
        replace u2 : U.drew.cell? ⟨o, pl * 3 + 2, none⟩ = _ := u2
        replace o1 := owns_below o1 ((Below.refl _ _).drew : Below U.heap.size U U.drew)
        replace o2 := owns_below o2 ((Below.refl _ _).drew : Below U.heap.size U U.drew)
        replace f1 : U.drew.frozen? ⟨o, pl * 3 + 1, none⟩ = _ := f1
        replace f2 : U.drew.frozen? ⟨o, pl * 3 + 2, none⟩ = _ := f2
        refine wp_region_noPanic ?_
        refine wp_region_held_drew (S := fun W' => W'.cell? ⟨bx, 0, none⟩ = some (.int .i64 t) ∧ W'.cell? ⟨bx, 1, none⟩ = some (.int .i64 mode)) (by kernel_rfl) (⟨z0, z1⟩) (fun hH => ?_)
        generalize U.drew = V at *
        have lo2 : o < V.heap.size := lt_of_cell u1
        have kN : Below V.heap.size V (V.alloc (.cells #[.int .i64 t, .int .i64 mode] 110)) := (Below.refl _ _).alloc (Nat.le_refl _) _
        have kT := kN
        have oN := owns_below o2 kN
        have hC := new_hold V t mode 110
        have hsum : lqs.length + 1 ≤ 4194304 := by omega
        have hb3 : B1 ≤ (V.alloc (.cells #[.int .i64 t, .int .i64 mode] 110)).heap.size := Nat.le_trans hB1 kN.size
        have hbx : (Value.slice aq lqs.length cq).ownBlock ≠ some bx := fun e => HBX.out (List.mem_append.2 (.inr (List.mem_flatMap.2 ⟨_, List.mem_of_getElem? hp, by simp [blks, e]⟩)))
        refine hTake (i := 0) (v := ?_) rfl (by kernel_rfl) (by kernel_rfl) (by kernel_rfl) (by rfl) ?_ hH ?_
        rotate_left
        · intro W hW; (try dsimp only at hW); go_simp <;> with_reducible rfl
        simp only [Act.put, List.setIfInBounds_toArray, List.set_cons_zero, List.set_cons_succ]
        refine hTake (i := 1) (v := ?_) rfl (by kernel_rfl) (by kernel_rfl) (by kernel_rfl) (by rfl) ?_ hH ?_
        rotate_left
        · intro W hW; (try dsimp only at hW); go_simp <;> with_reducible rfl
        simp only [Act.put, List.setIfInBounds_toArray, List.set_cons_zero, List.set_cons_succ]
        refine hTake (i := 2) (v := ?_) rfl (by kernel_rfl) (by kernel_rfl) (by kernel_rfl) (by rfl) ?_ hH ?_
        rotate_left
        · intro W hW; (try dsimp only at hW); go_simp <;> with_reducible rfl
        simp only [Act.put, List.setIfInBounds_toArray, List.set_cons_zero, List.set_cons_succ]
        refine hTake (i := 3) (v := ?_) rfl (by kernel_rfl) (by kernel_rfl) (by kernel_rfl) (by rfl) ?_ hH ?_
        rotate_left
        · intro W hW; (try dsimp only at hW); go_simp <;> with_reducible rfl
        simp only [Act.put, List.setIfInBounds_toArray, List.set_cons_zero, List.set_cons_succ]
        refine hTake (i := 5) (v := ?_) rfl (by kernel_rfl) (by kernel_rfl) (by kernel_rfl) (by rfl) ?_ hH ?_
        rotate_left
        · intro W hW; (try dsimp only at hW); go_simp <;> with_reducible rfl
        simp only [Act.put, List.setIfInBounds_toArray, List.set_cons_zero, List.set_cons_succ]
        refine wpAnyH_ready (rs := [4, 6]) (by kernel_rfl) (by simp) ?_
        refine AllReadyH.cons rfl (fun K hK => ?_) (AllReadyH.cons rfl (fun K hK => ?_) AllReadyH.nil)
        · go_simp
          refine hK.out _ _ hH (fun hH => ?_)
          clear hK K
          refine wpAnyH_ready (rs := [6]) (by kernel_rfl) (by simp) ?_
          refine AllReadyH.cons rfl (fun K hK => ?_) AllReadyH.nil
          go_simp
          refine hK.out _ _ ⟨keep_cell kN hH.1, keep_cell kN hH.2⟩ (fun hH => ?_)
          clear hK K
          refine wpAnyH_ready (rs := [7]) (by kernel_rfl) (by simp) ?_
          refine AllReadyH.cons rfl (fun K hK => ?_) AllReadyH.nil
          refine step_appX Try.underlying72 Try.underlying72 gi0 gz0 gz1 gz2 rfl (by omega) (by omega) (.tmp 141) (.tmp 143) rfl rfl B1 (.slice aq lqs.length cq) lqs.length (hcells lqs) _ 1 1 (hcells [⟨t, mode⟩]) rfl rfl oN hC (hcells_one' _) hsum hb3 ?_
          intro a5 c5 w5 own5 gr5 at5
          have d1 := (grown_cell gr5 (keep_cell kN u2) (fun e => nr (by simp [blks, e])))
          have g1 := (gr5.frozen_far ⟨o, pl * 3 + 2, none⟩ (Nat.lt_of_lt_of_le lo2 kN.size) (by show some o ≠ _; exact fun e => nr (by simp [blks, e.symm]))).trans (((bcell kN).2 o (pl * 3 + 2) lo2).trans f2)
          have lo5 := lt_of_cell d1
          refine hK.out _ _ ⟨grown_cell gr5 hH.1 hbx, grown_cell gr5 hH.2 hbx⟩ (fun hH => ?_)
          clear hK K
          simp only [Act.put, List.setIfInBounds_toArray, List.set_cons_zero, List.set_cons_succ]
          refine hTake (i := 8) (v := ?_) rfl (by kernel_rfl) (by kernel_rfl) (by kernel_rfl) (by rfl) ?_ hH ?_
          rotate_left
          · intro W hW; (try dsimp only at hW); go_simp <;> with_reducible rfl
          simp only [Act.put, List.setIfInBounds_toArray, List.set_cons_zero, List.set_cons_succ]
          refine hTake (i := 9) (v := ?_) rfl (by kernel_rfl) (by kernel_rfl) (by kernel_rfl) (by rfl) ?_ hH ?_
          rotate_left
          · intro W hW; (try dsimp only at hW); go_simp <;> with_reducible rfl
          simp only [Act.put, List.setIfInBounds_toArray, List.set_cons_zero, List.set_cons_succ]
          refine wpAnyH_ready (rs := [10]) (by kernel_rfl) (by simp) ?_
          refine AllReadyH.cons rfl (fun K hK => ?_) AllReadyH.nil
          go_simp
          refine hK.out _ _ (by first | (go_simp; done) | exact ⟨by rw [World.cell?_setCell_other _ _ _ _ (by simp; omega)]; exact hH.1, by rw [World.cell?_setCell_other _ _ _ _ (by simp; omega)]; exact hH.2⟩) (fun hH => ?_)
          clear hK K
          refine wpAnyH_done (by kernel_rfl) ?_ _
          refine NoPanic.normal ?_
          rw [← hcells_append] at own5
          have grT : V.grownBy w5 (Value.slice aq lqs.length cq).ownBlock := ⟨gr5.os.trans kT.os, gr5.tape.trans kT.tape, gr5.output.trans kT.output, Nat.le_trans kT.size gr5.size, fun q hq hne => (gr5.block q (Nat.lt_of_lt_of_le hq kT.size) hne).trans (kT.block q hq)⟩
          have hf : ∀ g ∈ blks (.slice ah lhs.length ch, .slice a5 (lqs.length + 1) c5), g ∈ blks (.slice ah lhs.length ch, .slice aq lqs.length cq) ∨ V.heap.size ≤ g := by
            intro g hg
            simp only [blks, List.mem_append, Option.mem_toList] at hg ⊢
            rcases hg with hg | hg
            · exact .inl (.inl hg)
            · rcases at5 g hg with h1 | h1
              · exact .inl (.inr h1)
              · exact .inr (Nat.le_trans kT.size h1)
          have oy' := owns_grown o1 grT (fun g hg e => ne g hg e)
          have ownx := own.swap (j := 2) (z := .slice a5 (lqs.length + 1) c5) hp grT (fun g hg => by simp [blks, hg]) (l := ⟨r, lhs, lqs ++ [⟨t, mode⟩]⟩) hr0.out.symm oy' (by simp only [List.length_append, List.length_cons, List.length_nil]; exact own5) (fun g h1 h2 => by
            rcases at5 g h2 with h3 | h3
            · exact ne g h1 h3
            · exact absurd (owns_lt o1 g h1).2 (Nat.not_lt_of_le (Nat.le_trans kT.size h3))) hf (.inr ⟨rfl, rfl, rfl⟩)
          have hst := (owns_grown own.row grT (fun g hg e => by cases hg; exact nr (by simp [blks, e]))).stored (pl * 3 + 2) (.slice a5 (lqs.length + 1) c5)
          have mv := (moved_two (v := .slice (some ⟨o, 0, none⟩) m3 c3) (vs' := vs3.set pl (.slice ah lhs.length ch, .slice a5 (lqs.length + 1) c5)) hp rfl grT hst.2 (fun g hg => by simp [blks, hg]) rfl hf).below own hB1
          rw [← HLX.out] at ownx
          have hRx := heap_lower mv lz hRV
          have BWx := BWV.trans (mv.mono (by omega))
          clear own5 hf hst grT gr5 at5 oy' mv d1 g1
          obtain ⟨⟨x0, x1, x2, x3⟩, ff0, ff1, ff2, ff3⟩ := row4 hRx
          have lrx := lt_of_cell x0
          have OX := hid ownx
          clear ownx
          go_wp2
          exact bodyPost_ret (v := .agg #[.int .i64 0, .bool false, .slice none 0 0, .slice (some ⟨o, 0, none⟩) m3 c3]) (by simp [results, Try.results54, go_sem, x0, x1, x2, x3]) rfl ⟨_, _, _, by rw [HAX.out], by rw [HAX.out]; exact ⟨_, ((((OX.out.setLow hwl _ _).setLow hwl _ _).setLow hwl _ _).setLow hwl _ _).base (by omega)⟩, (BWx.setCell (p := ⟨w.heap.size, 0, none⟩) (Nat.le_refl _) _ |>.setCell (p := ⟨w.heap.size, 1, none⟩) (Nat.le_refl _) _ |>.setCell (p := ⟨w.heap.size, 2, none⟩) (Nat.le_refl _) _ |>.setCell (p := ⟨w.heap.size, 3, none⟩) (Nat.le_refl _) _)⟩
        · go_simp
          refine hK.out _ _ ⟨keep_cell kN hH.1, keep_cell kN hH.2⟩ (fun hH => ?_)
          clear hK K
          refine wpAnyH_ready (rs := [4]) (by kernel_rfl) (by simp) ?_
          refine AllReadyH.cons rfl (fun K hK => ?_) AllReadyH.nil
          have e1 := keep_cell kN u2
          go_simp
          refine hK.out _ _ hH (fun hH => ?_)
          clear hK K
          refine wpAnyH_ready (rs := [7]) (by kernel_rfl) (by simp) ?_
          refine AllReadyH.cons rfl (fun K hK => ?_) AllReadyH.nil
          refine step_appX Try.underlying72 Try.underlying72 gi0 gz0 gz1 gz2 rfl (by omega) (by omega) (.tmp 141) (.tmp 143) rfl rfl B1 (.slice aq lqs.length cq) lqs.length (hcells lqs) _ 1 1 (hcells [⟨t, mode⟩]) rfl rfl oN hC (hcells_one' _) hsum hb3 ?_
          intro a5 c5 w5 own5 gr5 at5
          have d1 := (grown_cell gr5 (keep_cell kN u2) (fun e => nr (by simp [blks, e])))
          have g1 := (gr5.frozen_far ⟨o, pl * 3 + 2, none⟩ (Nat.lt_of_lt_of_le lo2 kN.size) (by show some o ≠ _; exact fun e => nr (by simp [blks, e.symm]))).trans (((bcell kN).2 o (pl * 3 + 2) lo2).trans f2)
          have lo5 := lt_of_cell d1
          refine hK.out _ _ ⟨grown_cell gr5 hH.1 hbx, grown_cell gr5 hH.2 hbx⟩ (fun hH => ?_)
          clear hK K
          simp only [Act.put, List.setIfInBounds_toArray, List.set_cons_zero, List.set_cons_succ]
          refine hTake (i := 8) (v := ?_) rfl (by kernel_rfl) (by kernel_rfl) (by kernel_rfl) (by rfl) ?_ hH ?_
          rotate_left
          · intro W hW; (try dsimp only at hW); go_simp <;> with_reducible rfl
          simp only [Act.put, List.setIfInBounds_toArray, List.set_cons_zero, List.set_cons_succ]
          refine hTake (i := 9) (v := ?_) rfl (by kernel_rfl) (by kernel_rfl) (by kernel_rfl) (by rfl) ?_ hH ?_
          rotate_left
          · intro W hW; (try dsimp only at hW); go_simp <;> with_reducible rfl
          simp only [Act.put, List.setIfInBounds_toArray, List.set_cons_zero, List.set_cons_succ]
          refine wpAnyH_ready (rs := [10]) (by kernel_rfl) (by simp) ?_
          refine AllReadyH.cons rfl (fun K hK => ?_) AllReadyH.nil
          go_simp
          refine hK.out _ _ (by first | (go_simp; done) | exact ⟨by rw [World.cell?_setCell_other _ _ _ _ (by simp; omega)]; exact hH.1, by rw [World.cell?_setCell_other _ _ _ _ (by simp; omega)]; exact hH.2⟩) (fun hH => ?_)
          clear hK K
          refine wpAnyH_done (by kernel_rfl) ?_ _
          refine NoPanic.normal ?_
          rw [← hcells_append] at own5
          have grT : V.grownBy w5 (Value.slice aq lqs.length cq).ownBlock := ⟨gr5.os.trans kT.os, gr5.tape.trans kT.tape, gr5.output.trans kT.output, Nat.le_trans kT.size gr5.size, fun q hq hne => (gr5.block q (Nat.lt_of_lt_of_le hq kT.size) hne).trans (kT.block q hq)⟩
          have hf : ∀ g ∈ blks (.slice ah lhs.length ch, .slice a5 (lqs.length + 1) c5), g ∈ blks (.slice ah lhs.length ch, .slice aq lqs.length cq) ∨ V.heap.size ≤ g := by
            intro g hg
            simp only [blks, List.mem_append, Option.mem_toList] at hg ⊢
            rcases hg with hg | hg
            · exact .inl (.inl hg)
            · rcases at5 g hg with h1 | h1
              · exact .inl (.inr h1)
              · exact .inr (Nat.le_trans kT.size h1)
          have oy' := owns_grown o1 grT (fun g hg e => ne g hg e)
          have ownx := own.swap (j := 2) (z := .slice a5 (lqs.length + 1) c5) hp grT (fun g hg => by simp [blks, hg]) (l := ⟨r, lhs, lqs ++ [⟨t, mode⟩]⟩) hr0.out.symm oy' (by simp only [List.length_append, List.length_cons, List.length_nil]; exact own5) (fun g h1 h2 => by
            rcases at5 g h2 with h3 | h3
            · exact ne g h1 h3
            · exact absurd (owns_lt o1 g h1).2 (Nat.not_lt_of_le (Nat.le_trans kT.size h3))) hf (.inr ⟨rfl, rfl, rfl⟩)
          have hst := (owns_grown own.row grT (fun g hg e => by cases hg; exact nr (by simp [blks, e]))).stored (pl * 3 + 2) (.slice a5 (lqs.length + 1) c5)
          have mv := (moved_two (v := .slice (some ⟨o, 0, none⟩) m3 c3) (vs' := vs3.set pl (.slice ah lhs.length ch, .slice a5 (lqs.length + 1) c5)) hp rfl grT hst.2 (fun g hg => by simp [blks, hg]) rfl hf).below own hB1
          rw [← HLX.out] at ownx
          have hRx := heap_lower mv lz hRV
          have BWx := BWV.trans (mv.mono (by omega))
          clear own5 hf hst grT gr5 at5 oy' mv d1 g1
          obtain ⟨⟨x0, x1, x2, x3⟩, ff0, ff1, ff2, ff3⟩ := row4 hRx
          have lrx := lt_of_cell x0
          have OX := hid ownx
          clear ownx
          go_wp2
          exact bodyPost_ret (v := .agg #[.int .i64 0, .bool false, .slice none 0 0, .slice (some ⟨o, 0, none⟩) m3 c3]) (by simp [results, Try.results54, go_sem, x0, x1, x2, x3]) rfl ⟨_, _, _, by rw [HAX.out], by rw [HAX.out]; exact ⟨_, ((((OX.out.setLow hwl _ _).setLow hwl _ _).setLow hwl _ _).setLow hwl _ _).base (by omega)⟩, (BWx.setCell (p := ⟨w.heap.size, 0, none⟩) (Nat.le_refl _) _ |>.setCell (p := ⟨w.heap.size, 1, none⟩) (Nat.le_refl _) _ |>.setCell (p := ⟨w.heap.size, 2, none⟩) (Nat.le_refl _) _ |>.setCell (p := ⟨w.heap.size, 3, none⟩) (Nat.le_refl _) _)⟩
      · by_cases h20 : 20 ≤ lhs.length
        · have HE := hid (HCX.out (by rw [hft, hq0]; rfl) hft (by simp; omega))
          have HAX := hid (HXN.out _ _ HE.out)
          clear hq0
          go_wp2_with fail
          generalize U0.alloc (.cells #[.int .i64 t, .int .i64 mode] 110) = U at *
          generalize U0.heap.size = bx at *
          refine (l6Fits_any ah lhs.length ch t mode lhs _ h3 hszh HNM.out HM.out).mono ?_
          rintro e w5 ⟨rfl, hw5⟩
          obtain rfl : U = w5 := hw5.symm
          rw [hft]
          have hRx := hRU
          have BWx := BWU
          obtain ⟨⟨x0, x1, x2, x3⟩, ff0, ff1, ff2, ff3⟩ := row4 hRx
          have lrx := lt_of_cell x0
          go_wp2
          exact bodyPost_ret (v := .agg #[.int .i64 2, .bool false, .slice none 0 0, .slice none 0 0]) (by simp [results, Try.results54, go_sem, x0, x1, x2, x3]) rfl ⟨none, 0, 0, by rw [HAX.out], by rw [HAX.out]; exact ⟨[], OwnK.nil _ _ _⟩, (BWx.setCell (p := ⟨w.heap.size, 0, none⟩) (Nat.le_refl _) _ |>.setCell (p := ⟨w.heap.size, 1, none⟩) (Nat.le_refl _) _ |>.setCell (p := ⟨w.heap.size, 2, none⟩) (Nat.le_refl _) _ |>.setCell (p := ⟨w.heap.size, 3, none⟩) (Nat.le_refl _) _)⟩
        · have HE := hid ((HCP.out (by rw [hft, hq0]; rfl) hft (by simp; omega)).trans (by rw [HPN.out]))
          have HAX := hid (HXO.out _ _ HE.out)
          have HLX := hid (HLS.out _ HE.out)
          simp only at HLX
          clear hq0
          go_wp2_with fail
          generalize U0.alloc (.cells #[.int .i64 t, .int .i64 mode] 110) = U at *
          generalize U0.heap.size = bx at *
          refine (l6Fits_any ah lhs.length ch t mode lhs _ h3 hszh HNM.out HM.out).mono ?_
          rintro e w5 ⟨rfl, hw5⟩
          obtain rfl : U = w5 := hw5.symm
          rw [hft]
          clear hqb
          go_wp2_with fail
          have BWV : Below w.heap.size w U.drew := BWU.drew
          have hRV : U.drew.heap[w.heap.size]? = _ := hRU
          have own := ownU.below ((Below.refl _ _).drew : Below U.heap.size U U.drew)
          have hB1 : B1 ≤ U.drew.heap.size := hBU
          replace z0 : U.drew.cell? ⟨bx, 0, none⟩ = _ := z0
          replace z1 : U.drew.cell? ⟨bx, 1, none⟩ = _ := z1
          replace u1 : U.drew.cell? ⟨o, pl * 3 + 1, none⟩ = _ := u1
          replace u2 : U.drew.cell? ⟨o, pl * 3 + 2, none⟩ = _ := u2
          replace o1 := owns_below o1 ((Below.refl _ _).drew : Below U.heap.size U U.drew)
          replace o2 := owns_below o2 ((Below.refl _ _).drew : Below U.heap.size U U.drew)
          replace f1 : U.drew.frozen? ⟨o, pl * 3 + 1, none⟩ = _ := f1
          replace f2 : U.drew.frozen? ⟨o, pl * 3 + 2, none⟩ = _ := f2
          refine wp_region_noPanic ?_
          refine wp_region_held_drew (S := fun W' => W'.cell? ⟨bx, 0, none⟩ = some (.int .i64 t) ∧ W'.cell? ⟨bx, 1, none⟩ = some (.int .i64 mode)) (by kernel_rfl) (⟨z0, z1⟩) (fun hH => ?_)
          generalize U.drew = V at *
          have lo2 : o < V.heap.size := lt_of_cell u1
          have kN : Below V.heap.size V (V.alloc (.cells #[.int .i64 t, .int .i64 mode] 110)) := (Below.refl _ _).alloc (Nat.le_refl _) _
          have kT := kN
          have oN := owns_below o1 kN
          have hC := new_hold V t mode 110
          have hsum : lhs.length + 1 ≤ 4194304 := by omega
          have hb3 : B1 ≤ (V.alloc (.cells #[.int .i64 t, .int .i64 mode] 110)).heap.size := Nat.le_trans hB1 kN.size
          have hbx : (Value.slice ah lhs.length ch).ownBlock ≠ some bx := fun e => HBX.out (List.mem_append.2 (.inr (List.mem_flatMap.2 ⟨_, List.mem_of_getElem? hp, by simp [blks, e]⟩)))
          refine hTake (i := 0) (v := ?_) rfl (by kernel_rfl) (by kernel_rfl) (by kernel_rfl) (by rfl) ?_ hH ?_
          rotate_left
          · intro W hW; (try dsimp only at hW); go_simp <;> with_reducible rfl
          simp only [Act.put, List.setIfInBounds_toArray, List.set_cons_zero, List.set_cons_succ]
          refine hTake (i := 1) (v := ?_) rfl (by kernel_rfl) (by kernel_rfl) (by kernel_rfl) (by rfl) ?_ hH ?_
          rotate_left
          · intro W hW; (try dsimp only at hW); go_simp <;> with_reducible rfl
          simp only [Act.put, List.setIfInBounds_toArray, List.set_cons_zero, List.set_cons_succ]
          refine hTake (i := 2) (v := ?_) rfl (by kernel_rfl) (by kernel_rfl) (by kernel_rfl) (by rfl) ?_ hH ?_
          rotate_left
          · intro W hW; (try dsimp only at hW); go_simp <;> with_reducible rfl
          simp only [Act.put, List.setIfInBounds_toArray, List.set_cons_zero, List.set_cons_succ]
          refine hTake (i := 3) (v := ?_) rfl (by kernel_rfl) (by kernel_rfl) (by kernel_rfl) (by rfl) ?_ hH ?_
          rotate_left
          · intro W hW; (try dsimp only at hW); go_simp <;> with_reducible rfl
          simp only [Act.put, List.setIfInBounds_toArray, List.set_cons_zero, List.set_cons_succ]
          refine hTake (i := 5) (v := ?_) rfl (by kernel_rfl) (by kernel_rfl) (by kernel_rfl) (by rfl) ?_ hH ?_
          rotate_left
          · intro W hW; (try dsimp only at hW); go_simp <;> with_reducible rfl
          simp only [Act.put, List.setIfInBounds_toArray, List.set_cons_zero, List.set_cons_succ]
          refine wpAnyH_ready (rs := [4, 6]) (by kernel_rfl) (by simp) ?_
          refine AllReadyH.cons rfl (fun K hK => ?_) (AllReadyH.cons rfl (fun K hK => ?_) AllReadyH.nil)
          · go_simp
            refine hK.out _ _ hH (fun hH => ?_)
            clear hK K
            refine wpAnyH_ready (rs := [6]) (by kernel_rfl) (by simp) ?_
            refine AllReadyH.cons rfl (fun K hK => ?_) AllReadyH.nil
            go_simp
            refine hK.out _ _ ⟨keep_cell kN hH.1, keep_cell kN hH.2⟩ (fun hH => ?_)
            clear hK K
            refine wpAnyH_ready (rs := [7]) (by kernel_rfl) (by simp) ?_
            refine AllReadyH.cons rfl (fun K hK => ?_) AllReadyH.nil
            refine step_appX Try.underlying72 Try.underlying72 gi0 gz0 gz1 gz2 rfl (by omega) (by omega) (.tmp 122) (.tmp 124) rfl rfl B1 (.slice ah lhs.length ch) lhs.length (hcells lhs) _ 1 1 (hcells [⟨t, mode⟩]) rfl rfl oN hC (hcells_one' _) hsum hb3 ?_
            intro a5 c5 w5 own5 gr5 at5
            have d1 := (grown_cell gr5 (keep_cell kN u1) (fun e => nr (by simp [blks, e])))
            have g1 := (gr5.frozen_far ⟨o, pl * 3 + 1, none⟩ (Nat.lt_of_lt_of_le lo2 kN.size) (by show some o ≠ _; exact fun e => nr (by simp [blks, e.symm]))).trans (((bcell kN).2 o (pl * 3 + 1) lo2).trans f1)
            have lo5 := lt_of_cell d1
            refine hK.out _ _ ⟨grown_cell gr5 hH.1 hbx, grown_cell gr5 hH.2 hbx⟩ (fun hH => ?_)
            clear hK K
            simp only [Act.put, List.setIfInBounds_toArray, List.set_cons_zero, List.set_cons_succ]
            refine hTake (i := 8) (v := ?_) rfl (by kernel_rfl) (by kernel_rfl) (by kernel_rfl) (by rfl) ?_ hH ?_
            rotate_left
            · intro W hW; (try dsimp only at hW); go_simp <;> with_reducible rfl
            simp only [Act.put, List.setIfInBounds_toArray, List.set_cons_zero, List.set_cons_succ]
            refine hTake (i := 9) (v := ?_) rfl (by kernel_rfl) (by kernel_rfl) (by kernel_rfl) (by rfl) ?_ hH ?_
            rotate_left
            · intro W hW; (try dsimp only at hW); go_simp <;> with_reducible rfl
            simp only [Act.put, List.setIfInBounds_toArray, List.set_cons_zero, List.set_cons_succ]
            refine wpAnyH_ready (rs := [10]) (by kernel_rfl) (by simp) ?_
            refine AllReadyH.cons rfl (fun K hK => ?_) AllReadyH.nil
            go_simp
            refine hK.out _ _ (by first | (go_simp; done) | exact ⟨by rw [World.cell?_setCell_other _ _ _ _ (by simp; omega)]; exact hH.1, by rw [World.cell?_setCell_other _ _ _ _ (by simp; omega)]; exact hH.2⟩) (fun hH => ?_)
            clear hK K
            refine wpAnyH_done (by kernel_rfl) ?_ _
            refine NoPanic.normal ?_
            rw [← hcells_append] at own5
            have grT : V.grownBy w5 (Value.slice ah lhs.length ch).ownBlock := ⟨gr5.os.trans kT.os, gr5.tape.trans kT.tape, gr5.output.trans kT.output, Nat.le_trans kT.size gr5.size, fun q hq hne => (gr5.block q (Nat.lt_of_lt_of_le hq kT.size) hne).trans (kT.block q hq)⟩
            have hf : ∀ g ∈ blks (.slice a5 (lhs.length + 1) c5, .slice aq lqs.length cq), g ∈ blks (.slice ah lhs.length ch, .slice aq lqs.length cq) ∨ V.heap.size ≤ g := by
              intro g hg
              simp only [blks, List.mem_append, Option.mem_toList] at hg ⊢
              rcases hg with hg | hg
              · rcases at5 g hg with h1 | h1
                · exact .inl (.inl h1)
                · exact .inr (Nat.le_trans kT.size h1)
              · exact .inl (.inr hg)
            have oy' := owns_grown o2 grT (fun g hg e => ne g e hg)
            have ownx := own.swap (j := 1) (z := .slice a5 (lhs.length + 1) c5) hp grT (fun g hg => by simp [blks, hg]) (l := ⟨r, lhs ++ [⟨t, mode⟩], lqs⟩) hr0.out.symm (by simp only [List.length_append, List.length_cons, List.length_nil]; exact own5) oy' (fun g h1 h2 => by
              rcases at5 g h1 with h3 | h3
              · exact ne g h3 h2
              · exact absurd (owns_lt o2 g h2).2 (Nat.not_lt_of_le (Nat.le_trans kT.size h3))) hf (.inl ⟨rfl, rfl, rfl⟩)
            have hst := (owns_grown own.row grT (fun g hg e => by cases hg; exact nr (by simp [blks, e]))).stored (pl * 3 + 1) (.slice a5 (lhs.length + 1) c5)
            have mv := (moved_two (v := .slice (some ⟨o, 0, none⟩) m3 c3) (vs' := vs3.set pl (.slice a5 (lhs.length + 1) c5, .slice aq lqs.length cq)) hp rfl grT hst.2 (fun g hg => by simp [blks, hg]) rfl hf).below own hB1
            rw [← HLX.out] at ownx
            have hRx := heap_lower mv lz hRV
            have BWx := BWV.trans (mv.mono (by omega))
            clear own5 hf hst grT gr5 at5 oy' mv d1 g1
            obtain ⟨⟨x0, x1, x2, x3⟩, ff0, ff1, ff2, ff3⟩ := row4 hRx
            have lrx := lt_of_cell x0
            have OX := hid ownx
            clear ownx
            go_wp2
            exact bodyPost_ret (v := .agg #[.int .i64 0, .bool true, .slice none 0 0, .slice (some ⟨o, 0, none⟩) m3 c3]) (by simp [results, Try.results54, go_sem, x0, x1, x2, x3]) rfl ⟨_, _, _, by rw [HAX.out], by rw [HAX.out]; exact ⟨_, ((((OX.out.setLow hwl _ _).setLow hwl _ _).setLow hwl _ _).setLow hwl _ _).base (by omega)⟩, (BWx.setCell (p := ⟨w.heap.size, 0, none⟩) (Nat.le_refl _) _ |>.setCell (p := ⟨w.heap.size, 1, none⟩) (Nat.le_refl _) _ |>.setCell (p := ⟨w.heap.size, 2, none⟩) (Nat.le_refl _) _ |>.setCell (p := ⟨w.heap.size, 3, none⟩) (Nat.le_refl _) _)⟩
          · go_simp
            refine hK.out _ _ ⟨keep_cell kN hH.1, keep_cell kN hH.2⟩ (fun hH => ?_)
            clear hK K
            refine wpAnyH_ready (rs := [4]) (by kernel_rfl) (by simp) ?_
            refine AllReadyH.cons rfl (fun K hK => ?_) AllReadyH.nil
            have e1 := keep_cell kN u1
            go_simp
            refine hK.out _ _ hH (fun hH => ?_)
            clear hK K
            refine wpAnyH_ready (rs := [7]) (by kernel_rfl) (by simp) ?_
            refine AllReadyH.cons rfl (fun K hK => ?_) AllReadyH.nil
            refine step_appX Try.underlying72 Try.underlying72 gi0 gz0 gz1 gz2 rfl (by omega) (by omega) (.tmp 122) (.tmp 124) rfl rfl B1 (.slice ah lhs.length ch) lhs.length (hcells lhs) _ 1 1 (hcells [⟨t, mode⟩]) rfl rfl oN hC (hcells_one' _) hsum hb3 ?_
            intro a5 c5 w5 own5 gr5 at5
            have d1 := (grown_cell gr5 (keep_cell kN u1) (fun e => nr (by simp [blks, e])))
            have g1 := (gr5.frozen_far ⟨o, pl * 3 + 1, none⟩ (Nat.lt_of_lt_of_le lo2 kN.size) (by show some o ≠ _; exact fun e => nr (by simp [blks, e.symm]))).trans (((bcell kN).2 o (pl * 3 + 1) lo2).trans f1)
            have lo5 := lt_of_cell d1
            refine hK.out _ _ ⟨grown_cell gr5 hH.1 hbx, grown_cell gr5 hH.2 hbx⟩ (fun hH => ?_)
            clear hK K
            simp only [Act.put, List.setIfInBounds_toArray, List.set_cons_zero, List.set_cons_succ]
            refine hTake (i := 8) (v := ?_) rfl (by kernel_rfl) (by kernel_rfl) (by kernel_rfl) (by rfl) ?_ hH ?_
            rotate_left
            · intro W hW; (try dsimp only at hW); go_simp <;> with_reducible rfl
            simp only [Act.put, List.setIfInBounds_toArray, List.set_cons_zero, List.set_cons_succ]
            refine hTake (i := 9) (v := ?_) rfl (by kernel_rfl) (by kernel_rfl) (by kernel_rfl) (by rfl) ?_ hH ?_
            rotate_left
            · intro W hW; (try dsimp only at hW); go_simp <;> with_reducible rfl
            simp only [Act.put, List.setIfInBounds_toArray, List.set_cons_zero, List.set_cons_succ]
            refine wpAnyH_ready (rs := [10]) (by kernel_rfl) (by simp) ?_
            refine AllReadyH.cons rfl (fun K hK => ?_) AllReadyH.nil
            go_simp
            refine hK.out _ _ (by first | (go_simp; done) | exact ⟨by rw [World.cell?_setCell_other _ _ _ _ (by simp; omega)]; exact hH.1, by rw [World.cell?_setCell_other _ _ _ _ (by simp; omega)]; exact hH.2⟩) (fun hH => ?_)
            clear hK K
            refine wpAnyH_done (by kernel_rfl) ?_ _
            refine NoPanic.normal ?_
            rw [← hcells_append] at own5
            have grT : V.grownBy w5 (Value.slice ah lhs.length ch).ownBlock := ⟨gr5.os.trans kT.os, gr5.tape.trans kT.tape, gr5.output.trans kT.output, Nat.le_trans kT.size gr5.size, fun q hq hne => (gr5.block q (Nat.lt_of_lt_of_le hq kT.size) hne).trans (kT.block q hq)⟩
            have hf : ∀ g ∈ blks (.slice a5 (lhs.length + 1) c5, .slice aq lqs.length cq), g ∈ blks (.slice ah lhs.length ch, .slice aq lqs.length cq) ∨ V.heap.size ≤ g := by
              intro g hg
              simp only [blks, List.mem_append, Option.mem_toList] at hg ⊢
              rcases hg with hg | hg
              · rcases at5 g hg with h1 | h1
                · exact .inl (.inl h1)
                · exact .inr (Nat.le_trans kT.size h1)
              · exact .inl (.inr hg)
            have oy' := owns_grown o2 grT (fun g hg e => ne g e hg)
            have ownx := own.swap (j := 1) (z := .slice a5 (lhs.length + 1) c5) hp grT (fun g hg => by simp [blks, hg]) (l := ⟨r, lhs ++ [⟨t, mode⟩], lqs⟩) hr0.out.symm (by simp only [List.length_append, List.length_cons, List.length_nil]; exact own5) oy' (fun g h1 h2 => by
              rcases at5 g h1 with h3 | h3
              · exact ne g h3 h2
              · exact absurd (owns_lt o2 g h2).2 (Nat.not_lt_of_le (Nat.le_trans kT.size h3))) hf (.inl ⟨rfl, rfl, rfl⟩)
            have hst := (owns_grown own.row grT (fun g hg e => by cases hg; exact nr (by simp [blks, e]))).stored (pl * 3 + 1) (.slice a5 (lhs.length + 1) c5)
            have mv := (moved_two (v := .slice (some ⟨o, 0, none⟩) m3 c3) (vs' := vs3.set pl (.slice a5 (lhs.length + 1) c5, .slice aq lqs.length cq)) hp rfl grT hst.2 (fun g hg => by simp [blks, hg]) rfl hf).below own hB1
            rw [← HLX.out] at ownx
            have hRx := heap_lower mv lz hRV
            have BWx := BWV.trans (mv.mono (by omega))
            clear own5 hf hst grT gr5 at5 oy' mv d1 g1
            obtain ⟨⟨x0, x1, x2, x3⟩, ff0, ff1, ff2, ff3⟩ := row4 hRx
            have lrx := lt_of_cell x0
            have OX := hid ownx
            clear ownx
            go_wp2
            exact bodyPost_ret (v := .agg #[.int .i64 0, .bool true, .slice none 0 0, .slice (some ⟨o, 0, none⟩) m3 c3]) (by simp [results, Try.results54, go_sem, x0, x1, x2, x3]) rfl ⟨_, _, _, by rw [HAX.out], by rw [HAX.out]; exact ⟨_, ((((OX.out.setLow hwl _ _).setLow hwl _ _).setLow hwl _ _).setLow hwl _ _).base (by omega)⟩, (BWx.setCell (p := ⟨w.heap.size, 0, none⟩) (Nat.le_refl _) _ |>.setCell (p := ⟨w.heap.size, 1, none⟩) (Nat.le_refl _) _ |>.setCell (p := ⟨w.heap.size, 2, none⟩) (Nat.le_refl _) _ |>.setCell (p := ⟨w.heap.size, 3, none⟩) (Nat.le_refl _) _)⟩
    · by_cases h20 : 20 ≤ lqs.length
      · have HE := hid ((HCF.out (by rw [decide_eq_true (show 0 < lqs.length by omega)]; simp)).trans (Ch.enter_full (l := ⟨r, lhs, lqs⟩) h20))
        have HAX := hid (HXN.out _ _ HE.out)
        have hRx := hRU
        have BWx := BWU
        obtain ⟨⟨x0, x1, x2, x3⟩, ff0, ff1, ff2, ff3⟩ := row4 hRx
        have lrx := lt_of_cell x0
        go_wp2
        exact bodyPost_ret (v := .agg #[.int .i64 2, .bool false, .slice none 0 0, .slice none 0 0]) (by simp [results, Try.results54, go_sem, x0, x1, x2, x3]) rfl ⟨none, 0, 0, by rw [HAX.out], by rw [HAX.out]; exact ⟨[], OwnK.nil _ _ _⟩, (BWx.setCell (p := ⟨w.heap.size, 0, none⟩) (Nat.le_refl _) _ |>.setCell (p := ⟨w.heap.size, 1, none⟩) (Nat.le_refl _) _ |>.setCell (p := ⟨w.heap.size, 2, none⟩) (Nat.le_refl _) _ |>.setCell (p := ⟨w.heap.size, 3, none⟩) (Nat.le_refl _) _)⟩
      · have HE := hid ((HCF.out (by rw [decide_eq_true (show 0 < lqs.length by omega)]; simp)).trans (Ch.enter_end (l := ⟨r, lhs, lqs⟩) h20))
        have HAX := hid (HXO.out _ _ HE.out)
        have HLX := hid (HLS.out _ HE.out)
        simp only at HLX
        go_wp2_with fail
        generalize U0.alloc (.cells #[.int .i64 t, .int .i64 mode] 110) = U at *
        generalize U0.heap.size = bx at *
        have BWV : Below w.heap.size w U.drew := BWU.drew
        have hRV : U.drew.heap[w.heap.size]? = _ := hRU
        have own := ownU.below ((Below.refl _ _).drew : Below U.heap.size U U.drew)
        have hB1 : B1 ≤ U.drew.heap.size := hBU
        replace z0 : U.drew.cell? ⟨bx, 0, none⟩ = _ := z0
        replace z1 : U.drew.cell? ⟨bx, 1, none⟩ = _ := z1
        replace u1 : U.drew.cell? ⟨o, pl * 3 + 1, none⟩ = _ := u1
        replace u2 : U.drew.cell? ⟨o, pl * 3 + 2, none⟩ = _ := u2
        replace o1 := owns_below o1 ((Below.refl _ _).drew : Below U.heap.size U U.drew)
        replace o2 := owns_below o2 ((Below.refl _ _).drew : Below U.heap.size U U.drew)
        replace f1 : U.drew.frozen? ⟨o, pl * 3 + 1, none⟩ = _ := f1
        replace f2 : U.drew.frozen? ⟨o, pl * 3 + 2, none⟩ = _ := f2
        refine wp_region_noPanic ?_
        refine wp_region_held_drew (S := fun W' => W'.cell? ⟨bx, 0, none⟩ = some (.int .i64 t) ∧ W'.cell? ⟨bx, 1, none⟩ = some (.int .i64 mode)) (by kernel_rfl) (⟨z0, z1⟩) (fun hH => ?_)
        generalize U.drew = V at *
        have lo2 : o < V.heap.size := lt_of_cell u1
        have kN : Below V.heap.size V (V.alloc (.cells #[.int .i64 t, .int .i64 mode] 110)) := (Below.refl _ _).alloc (Nat.le_refl _) _
        have kT := kN
        have oN := owns_below o2 kN
        have hC := new_hold V t mode 110
        have hsum : lqs.length + 1 ≤ 4194304 := by omega
        have hb3 : B1 ≤ (V.alloc (.cells #[.int .i64 t, .int .i64 mode] 110)).heap.size := Nat.le_trans hB1 kN.size
        have hbx : (Value.slice aq lqs.length cq).ownBlock ≠ some bx := fun e => HBX.out (List.mem_append.2 (.inr (List.mem_flatMap.2 ⟨_, List.mem_of_getElem? hp, by simp [blks, e]⟩)))
        refine hTake (i := 0) (v := ?_) rfl (by kernel_rfl) (by kernel_rfl) (by kernel_rfl) (by rfl) ?_ hH ?_
        rotate_left
        · intro W hW; (try dsimp only at hW); go_simp <;> with_reducible rfl
        simp only [Act.put, List.setIfInBounds_toArray, List.set_cons_zero, List.set_cons_succ]
        refine hTake (i := 1) (v := ?_) rfl (by kernel_rfl) (by kernel_rfl) (by kernel_rfl) (by rfl) ?_ hH ?_
        rotate_left
        · intro W hW; (try dsimp only at hW); go_simp <;> with_reducible rfl
        simp only [Act.put, List.setIfInBounds_toArray, List.set_cons_zero, List.set_cons_succ]
        refine hTake (i := 2) (v := ?_) rfl (by kernel_rfl) (by kernel_rfl) (by kernel_rfl) (by rfl) ?_ hH ?_
        rotate_left
        · intro W hW; (try dsimp only at hW); go_simp <;> with_reducible rfl
        simp only [Act.put, List.setIfInBounds_toArray, List.set_cons_zero, List.set_cons_succ]
        refine hTake (i := 3) (v := ?_) rfl (by kernel_rfl) (by kernel_rfl) (by kernel_rfl) (by rfl) ?_ hH ?_
        rotate_left
        · intro W hW; (try dsimp only at hW); go_simp <;> with_reducible rfl
        simp only [Act.put, List.setIfInBounds_toArray, List.set_cons_zero, List.set_cons_succ]
        refine hTake (i := 5) (v := ?_) rfl (by kernel_rfl) (by kernel_rfl) (by kernel_rfl) (by rfl) ?_ hH ?_
        rotate_left
        · intro W hW; (try dsimp only at hW); go_simp <;> with_reducible rfl
        simp only [Act.put, List.setIfInBounds_toArray, List.set_cons_zero, List.set_cons_succ]
        refine wpAnyH_ready (rs := [4, 6]) (by kernel_rfl) (by simp) ?_
        refine AllReadyH.cons rfl (fun K hK => ?_) (AllReadyH.cons rfl (fun K hK => ?_) AllReadyH.nil)
        · go_simp
          refine hK.out _ _ hH (fun hH => ?_)
          clear hK K
          refine wpAnyH_ready (rs := [6]) (by kernel_rfl) (by simp) ?_
          refine AllReadyH.cons rfl (fun K hK => ?_) AllReadyH.nil
          go_simp
          refine hK.out _ _ ⟨keep_cell kN hH.1, keep_cell kN hH.2⟩ (fun hH => ?_)
          clear hK K
          refine wpAnyH_ready (rs := [7]) (by kernel_rfl) (by simp) ?_
          refine AllReadyH.cons rfl (fun K hK => ?_) AllReadyH.nil
          refine step_appX Try.underlying72 Try.underlying72 gi0 gz0 gz1 gz2 rfl (by omega) (by omega) (.tmp 141) (.tmp 143) rfl rfl B1 (.slice aq lqs.length cq) lqs.length (hcells lqs) _ 1 1 (hcells [⟨t, mode⟩]) rfl rfl oN hC (hcells_one' _) hsum hb3 ?_
          intro a5 c5 w5 own5 gr5 at5
          have d1 := (grown_cell gr5 (keep_cell kN u2) (fun e => nr (by simp [blks, e])))
          have g1 := (gr5.frozen_far ⟨o, pl * 3 + 2, none⟩ (Nat.lt_of_lt_of_le lo2 kN.size) (by show some o ≠ _; exact fun e => nr (by simp [blks, e.symm]))).trans (((bcell kN).2 o (pl * 3 + 2) lo2).trans f2)
          have lo5 := lt_of_cell d1
          refine hK.out _ _ ⟨grown_cell gr5 hH.1 hbx, grown_cell gr5 hH.2 hbx⟩ (fun hH => ?_)
          clear hK K
          simp only [Act.put, List.setIfInBounds_toArray, List.set_cons_zero, List.set_cons_succ]
          refine hTake (i := 8) (v := ?_) rfl (by kernel_rfl) (by kernel_rfl) (by kernel_rfl) (by rfl) ?_ hH ?_
          rotate_left
          · intro W hW; (try dsimp only at hW); go_simp <;> with_reducible rfl
          simp only [Act.put, List.setIfInBounds_toArray, List.set_cons_zero, List.set_cons_succ]
          refine hTake (i := 9) (v := ?_) rfl (by kernel_rfl) (by kernel_rfl) (by kernel_rfl) (by rfl) ?_ hH ?_
          rotate_left
          · intro W hW; (try dsimp only at hW); go_simp <;> with_reducible rfl
          simp only [Act.put, List.setIfInBounds_toArray, List.set_cons_zero, List.set_cons_succ]
          refine wpAnyH_ready (rs := [10]) (by kernel_rfl) (by simp) ?_
          refine AllReadyH.cons rfl (fun K hK => ?_) AllReadyH.nil
          go_simp
          refine hK.out _ _ (by first | (go_simp; done) | exact ⟨by rw [World.cell?_setCell_other _ _ _ _ (by simp; omega)]; exact hH.1, by rw [World.cell?_setCell_other _ _ _ _ (by simp; omega)]; exact hH.2⟩) (fun hH => ?_)
          clear hK K
          refine wpAnyH_done (by kernel_rfl) ?_ _
          refine NoPanic.normal ?_
          rw [← hcells_append] at own5
          have grT : V.grownBy w5 (Value.slice aq lqs.length cq).ownBlock := ⟨gr5.os.trans kT.os, gr5.tape.trans kT.tape, gr5.output.trans kT.output, Nat.le_trans kT.size gr5.size, fun q hq hne => (gr5.block q (Nat.lt_of_lt_of_le hq kT.size) hne).trans (kT.block q hq)⟩
          have hf : ∀ g ∈ blks (.slice ah lhs.length ch, .slice a5 (lqs.length + 1) c5), g ∈ blks (.slice ah lhs.length ch, .slice aq lqs.length cq) ∨ V.heap.size ≤ g := by
            intro g hg
            simp only [blks, List.mem_append, Option.mem_toList] at hg ⊢
            rcases hg with hg | hg
            · exact .inl (.inl hg)
            · rcases at5 g hg with h1 | h1
              · exact .inl (.inr h1)
              · exact .inr (Nat.le_trans kT.size h1)
          have oy' := owns_grown o1 grT (fun g hg e => ne g hg e)
          have ownx := own.swap (j := 2) (z := .slice a5 (lqs.length + 1) c5) hp grT (fun g hg => by simp [blks, hg]) (l := ⟨r, lhs, lqs ++ [⟨t, mode⟩]⟩) hr0.out.symm oy' (by simp only [List.length_append, List.length_cons, List.length_nil]; exact own5) (fun g h1 h2 => by
            rcases at5 g h2 with h3 | h3
            · exact ne g h1 h3
            · exact absurd (owns_lt o1 g h1).2 (Nat.not_lt_of_le (Nat.le_trans kT.size h3))) hf (.inr ⟨rfl, rfl, rfl⟩)
          have hst := (owns_grown own.row grT (fun g hg e => by cases hg; exact nr (by simp [blks, e]))).stored (pl * 3 + 2) (.slice a5 (lqs.length + 1) c5)
          have mv := (moved_two (v := .slice (some ⟨o, 0, none⟩) m3 c3) (vs' := vs3.set pl (.slice ah lhs.length ch, .slice a5 (lqs.length + 1) c5)) hp rfl grT hst.2 (fun g hg => by simp [blks, hg]) rfl hf).below own hB1
          rw [← HLX.out] at ownx
          have hRx := heap_lower mv lz hRV
          have BWx := BWV.trans (mv.mono (by omega))
          clear own5 hf hst grT gr5 at5 oy' mv d1 g1
          obtain ⟨⟨x0, x1, x2, x3⟩, ff0, ff1, ff2, ff3⟩ := row4 hRx
          have lrx := lt_of_cell x0
          have OX := hid ownx
          clear ownx
          go_wp2
          exact bodyPost_ret (v := .agg #[.int .i64 0, .bool false, .slice none 0 0, .slice (some ⟨o, 0, none⟩) m3 c3]) (by simp [results, Try.results54, go_sem, x0, x1, x2, x3]) rfl ⟨_, _, _, by rw [HAX.out], by rw [HAX.out]; exact ⟨_, ((((OX.out.setLow hwl _ _).setLow hwl _ _).setLow hwl _ _).setLow hwl _ _).base (by omega)⟩, (BWx.setCell (p := ⟨w.heap.size, 0, none⟩) (Nat.le_refl _) _ |>.setCell (p := ⟨w.heap.size, 1, none⟩) (Nat.le_refl _) _ |>.setCell (p := ⟨w.heap.size, 2, none⟩) (Nat.le_refl _) _ |>.setCell (p := ⟨w.heap.size, 3, none⟩) (Nat.le_refl _) _)⟩
        · go_simp
          refine hK.out _ _ ⟨keep_cell kN hH.1, keep_cell kN hH.2⟩ (fun hH => ?_)
          clear hK K
          refine wpAnyH_ready (rs := [4]) (by kernel_rfl) (by simp) ?_
          refine AllReadyH.cons rfl (fun K hK => ?_) AllReadyH.nil
          have e1 := keep_cell kN u2
          go_simp
          refine hK.out _ _ hH (fun hH => ?_)
          clear hK K
          refine wpAnyH_ready (rs := [7]) (by kernel_rfl) (by simp) ?_
          refine AllReadyH.cons rfl (fun K hK => ?_) AllReadyH.nil
          refine step_appX Try.underlying72 Try.underlying72 gi0 gz0 gz1 gz2 rfl (by omega) (by omega) (.tmp 141) (.tmp 143) rfl rfl B1 (.slice aq lqs.length cq) lqs.length (hcells lqs) _ 1 1 (hcells [⟨t, mode⟩]) rfl rfl oN hC (hcells_one' _) hsum hb3 ?_
          intro a5 c5 w5 own5 gr5 at5
          have d1 := (grown_cell gr5 (keep_cell kN u2) (fun e => nr (by simp [blks, e])))
          have g1 := (gr5.frozen_far ⟨o, pl * 3 + 2, none⟩ (Nat.lt_of_lt_of_le lo2 kN.size) (by show some o ≠ _; exact fun e => nr (by simp [blks, e.symm]))).trans (((bcell kN).2 o (pl * 3 + 2) lo2).trans f2)
          have lo5 := lt_of_cell d1
          refine hK.out _ _ ⟨grown_cell gr5 hH.1 hbx, grown_cell gr5 hH.2 hbx⟩ (fun hH => ?_)
          clear hK K
          simp only [Act.put, List.setIfInBounds_toArray, List.set_cons_zero, List.set_cons_succ]
          refine hTake (i := 8) (v := ?_) rfl (by kernel_rfl) (by kernel_rfl) (by kernel_rfl) (by rfl) ?_ hH ?_
          rotate_left
          · intro W hW; (try dsimp only at hW); go_simp <;> with_reducible rfl
          simp only [Act.put, List.setIfInBounds_toArray, List.set_cons_zero, List.set_cons_succ]
          refine hTake (i := 9) (v := ?_) rfl (by kernel_rfl) (by kernel_rfl) (by kernel_rfl) (by rfl) ?_ hH ?_
          rotate_left
          · intro W hW; (try dsimp only at hW); go_simp <;> with_reducible rfl
          simp only [Act.put, List.setIfInBounds_toArray, List.set_cons_zero, List.set_cons_succ]
          refine wpAnyH_ready (rs := [10]) (by kernel_rfl) (by simp) ?_
          refine AllReadyH.cons rfl (fun K hK => ?_) AllReadyH.nil
          go_simp
          refine hK.out _ _ (by first | (go_simp; done) | exact ⟨by rw [World.cell?_setCell_other _ _ _ _ (by simp; omega)]; exact hH.1, by rw [World.cell?_setCell_other _ _ _ _ (by simp; omega)]; exact hH.2⟩) (fun hH => ?_)
          clear hK K
          refine wpAnyH_done (by kernel_rfl) ?_ _
          refine NoPanic.normal ?_
          rw [← hcells_append] at own5
          have grT : V.grownBy w5 (Value.slice aq lqs.length cq).ownBlock := ⟨gr5.os.trans kT.os, gr5.tape.trans kT.tape, gr5.output.trans kT.output, Nat.le_trans kT.size gr5.size, fun q hq hne => (gr5.block q (Nat.lt_of_lt_of_le hq kT.size) hne).trans (kT.block q hq)⟩
          have hf : ∀ g ∈ blks (.slice ah lhs.length ch, .slice a5 (lqs.length + 1) c5), g ∈ blks (.slice ah lhs.length ch, .slice aq lqs.length cq) ∨ V.heap.size ≤ g := by
            intro g hg
            simp only [blks, List.mem_append, Option.mem_toList] at hg ⊢
            rcases hg with hg | hg
            · exact .inl (.inl hg)
            · rcases at5 g hg with h1 | h1
              · exact .inl (.inr h1)
              · exact .inr (Nat.le_trans kT.size h1)
          have oy' := owns_grown o1 grT (fun g hg e => ne g hg e)
          have ownx := own.swap (j := 2) (z := .slice a5 (lqs.length + 1) c5) hp grT (fun g hg => by simp [blks, hg]) (l := ⟨r, lhs, lqs ++ [⟨t, mode⟩]⟩) hr0.out.symm oy' (by simp only [List.length_append, List.length_cons, List.length_nil]; exact own5) (fun g h1 h2 => by
            rcases at5 g h2 with h3 | h3
            · exact ne g h1 h3
            · exact absurd (owns_lt o1 g h1).2 (Nat.not_lt_of_le (Nat.le_trans kT.size h3))) hf (.inr ⟨rfl, rfl, rfl⟩)
          have hst := (owns_grown own.row grT (fun g hg e => by cases hg; exact nr (by simp [blks, e]))).stored (pl * 3 + 2) (.slice a5 (lqs.length + 1) c5)
          have mv := (moved_two (v := .slice (some ⟨o, 0, none⟩) m3 c3) (vs' := vs3.set pl (.slice ah lhs.length ch, .slice a5 (lqs.length + 1) c5)) hp rfl grT hst.2 (fun g hg => by simp [blks, hg]) rfl hf).below own hB1
          rw [← HLX.out] at ownx
          have hRx := heap_lower mv lz hRV
          have BWx := BWV.trans (mv.mono (by omega))
          clear own5 hf hst grT gr5 at5 oy' mv d1 g1
          obtain ⟨⟨x0, x1, x2, x3⟩, ff0, ff1, ff2, ff3⟩ := row4 hRx
          have lrx := lt_of_cell x0
          have OX := hid ownx
          clear ownx
          go_wp2
          exact bodyPost_ret (v := .agg #[.int .i64 0, .bool false, .slice none 0 0, .slice (some ⟨o, 0, none⟩) m3 c3]) (by simp [results, Try.results54, go_sem, x0, x1, x2, x3]) rfl ⟨_, _, _, by rw [HAX.out], by rw [HAX.out]; exact ⟨_, ((((OX.out.setLow hwl _ _).setLow hwl _ _).setLow hwl _ _).setLow hwl _ _).base (by omega)⟩, (BWx.setCell (p := ⟨w.heap.size, 0, none⟩) (Nat.le_refl _) _ |>.setCell (p := ⟨w.heap.size, 1, none⟩) (Nat.le_refl _) _ |>.setCell (p := ⟨w.heap.size, 2, none⟩) (Nat.le_refl _) _ |>.setCell (p := ⟨w.heap.size, 3, none⟩) (Nat.le_refl _) _)⟩
  · have HHM := hid (Ch.modeH_names HNM.out t).1
    have HN0 : (Ch.modeH lhs t == 0) = false := by have := (Ch.modeH_names HNM.out t).2; rw [he] at this; simpa using this
    have HCV := hid (Ch.ask_cov (l := ⟨r, lhs, lqs⟩) (t := t) (m := mode))
    have HCN := hid (fun hc h3 => Ch.ask_conv (l := ⟨r, lhs, lqs⟩) (t := t) (m := mode) hc (by simp only; rw [HN0]; rfl) h3)
    have HCP := hid (fun hc h3 => Ch.ask_put (l := ⟨r, lhs, lqs⟩) (t := t) (m := mode) hc (by simp only; rw [HN0]; rfl) h3 (by simp only; rw [he]; rfl))
    have HTB : Hid (Ch.tab Ch.covT (Ch.modeH lhs t) mode = Ch.covers (Ch.modeH lhs t) mode) := by show _ = _; unfold Ch.covers; rw [HHM.out, HM.out]; rfl
    have HJI := hid (Ch.join_isM HHM.out HM.out)
    have HPY := hid (Ch.putH_yes (h := ⟨t, Ch.join (Ch.modeH lhs t) mode⟩) he HAT)
    have HJM := hid hjm.symm
    have HJT := hid hjt
    clear he hjm hjt HN0
    simp only at HCV HCN HCP
    generalize Ch.modeH lhs t = held at *
    obtain ⟨jm, HJN⟩ : ∃ jm, Hid (Ch.join held mode = jm) := ⟨_, rfl⟩
    rw [HJN.out] at HCN HCP HPY HJI
    go_enter Try.func54, Try.ntmps54
    go_wp2_with fail
    refine (l6Copy_any a n cap ls _ (h.below (kA _)) hs).mono ?_
    rintro e w2 ⟨o0, c2, rfl, ⟨vs2, own2⟩, b2⟩
    have hR2 := heap_below b2 (heap_alloc_new w _)
    have BW2 := below_box b2
    have lz0 : w.heap.size < (w.alloc (.cells #[.int .i64 0, .bool false, .slice none 0 0, .slice none 0 0] 29)).heap.size := by rw [World.size_alloc]; omega
    have hB2 := b2.size
    generalize (w.alloc (.cells #[.int .i64 0, .bool false, .slice none 0 0, .slice none 0 0] 29)).heap.size = B1 at *
    clear b2
    go_wp2_with fail
    refine (l6Place_any B1 o0 n c2 res ls vs2 _ own2 hn hB2).mono ?_
    rintro e w3 ⟨a3, m3, c3, rfl, ⟨vs3, own3⟩, b3⟩
    have hRU := heap_lower b3 lz0 hR2
    have BWU := BW2.trans (b3.mono (by omega))
    have hBU : B1 ≤ w3.heap.size := Nat.le_trans hB2 b3.size
    have hwl := lz0
    have lz := lz0
    have hk3 : Ch.placeR res ls < m3 := by have h1 := own3.len; have := HPL.out; omega
    obtain ⟨o, rfl⟩ := own3.rowAt hk3
    clear own2 b3 hB2 hR2 BW2
    obtain ⟨ah, ch, aq, cq, hp, c0, u1, u2, f1, f2, o1, o2, ne, nr, ob1, ob2⟩ := own3.one hk3
    have hr0 : Hid ((Ch.lkAt (Ch.withL res ls) (Ch.placeR res ls)).r = r) := by show _ = _; rw [HLK.out]
    rw [HLK.out] at hp c0 u1 u2 o1 o2 ne nr
    simp only at hp c0 u1 u2 o1 o2 ne nr
    have h3 := owns_cells o1
    have HLS : Hid (∀ x, Ch.askOne ⟨r, lhs, lqs⟩ t mode = x → Ch.askLs ls t res mode = (Ch.withL res ls).set (Ch.placeR res ls) x.2.2) := fun x hx => by show (Ch.withL res ls).set _ (Ch.askOne (Ch.lkAt (Ch.withL res ls) (Ch.placeR res ls)) t mode).2.2 = _; rw [HLK.out, hx]
    have HSM := hid (Ch.lk_same (Ch.withL res ls) (Ch.placeR res ls))
    rw [HLK.out] at HSM
    generalize Ch.placeR res ls = pl at *
    have ownU := own3
    clear own3
    generalize w3 = U0 at *
    obtain ⟨xb, xo, hax, q0, q1⟩ := h3.hold hj
    obtain ⟨xb', rfl⟩ : ∃ xb, ah = some ⟨xb, 0, none⟩ := by
      rcases o1.2 with ⟨hv, h0⟩ | ⟨g, cp, cur, hv, _⟩
      · omega
      · simp only [Value.slice.injEq, true_and] at hv
        exact ⟨g, hv.1⟩
    simp only [Option.some.injEq, Addr.mk.injEq, and_true] at hax
    obtain ⟨rfl, rfl⟩ := hax
    rw [Nat.zero_add] at q0 q1
    rw [HJM.out] at q1
    have hxb := owns_lt o1 xb' rfl
    have lxb := lt_of_cell q1
    have lo0 := lt_of_cell u1
    have hxw : ¬ xb' = w.heap.size := by omega
    have how : ¬ o = w.heap.size := by omega
    have hxo : ¬ xb' = o := fun e => nr (by subst e; simp [blks, Value.ownBlock])
    have HAT := hid HAT
    go_wp2_with fail
    refine (l6At_any (some ⟨xb', 0, none⟩) lhs.length ch t lhs _ h3 hszh).mono ?_
    rintro e w4 ⟨rfl, hw4⟩
    obtain rfl : U0 = w4 := hw4.symm
    rw [HAT.out]
    cases hc : Ch.covers held mode
    · rw [hc] at HTB
      go_wp2_with fail
      refine (l5Cov_any held mode _ HHM.out HM.out).mono ?_
      rintro e w5 ⟨rfl, hw5⟩
      obtain rfl : U0 = w5 := hw5.symm
      rw [HTB.out]
      go_wp2_with fail
      refine (l5Join_any held mode _ HHM.out HM.out).mono ?_
      rintro e w5 ⟨rfl, hw5⟩
      obtain rfl : U0 = w5 := hw5.symm
      rw [HJN.out]
      cases hft : Ch.fitsH lhs t jm
      · by_cases h20 : 20 ≤ lqs.length
        · have HE := hid ((HCN.out hc hft).trans (Ch.enter_full (l := ⟨r, lhs, lqs⟩) h20))
          have HAX := hid (HXN.out _ _ HE.out)
          go_wp2_with fail
          refine (l6Fits_any (some ⟨xb', 0, none⟩) lhs.length ch t jm lhs _ h3 hszh HNM.out HJI.out).mono ?_
          rintro e w5 ⟨rfl, hw5⟩
          obtain rfl : U0 = w5 := hw5.symm
          rw [hft]
          have hRx := hRU
          have BWx := BWU
          obtain ⟨⟨x0, x1, x2, x3⟩, ff0, ff1, ff2, ff3⟩ := row4 hRx
          have lrx := lt_of_cell x0
          go_wp2
          exact bodyPost_ret (v := .agg #[.int .i64 2, .bool false, .slice none 0 0, .slice none 0 0]) (by simp [results, Try.results54, go_sem, x0, x1, x2, x3]) rfl ⟨none, 0, 0, by rw [HAX.out], by rw [HAX.out]; exact ⟨[], OwnK.nil _ _ _⟩, (BWx.setCell (p := ⟨w.heap.size, 0, none⟩) (Nat.le_refl _) _ |>.setCell (p := ⟨w.heap.size, 1, none⟩) (Nat.le_refl _) _ |>.setCell (p := ⟨w.heap.size, 2, none⟩) (Nat.le_refl _) _ |>.setCell (p := ⟨w.heap.size, 3, none⟩) (Nat.le_refl _) _)⟩
        · have HE := hid ((HCN.out hc hft).trans (Ch.enter_room (l := ⟨r, lhs, lqs⟩) h20))
          have HAX := hid (HXO.out _ _ HE.out)
          have HLX := hid (HLS.out _ HE.out)
          simp only at HLX
          go_wp2_with fail
          refine (l6Fits_any (some ⟨xb', 0, none⟩) lhs.length ch t jm lhs _ h3 hszh HNM.out HJI.out).mono ?_
          rintro e w5 ⟨rfl, hw5⟩
          obtain rfl : U0 = w5 := hw5.symm
          rw [hft]
          go_wp2_with fail
          refine (l6Behind_any t jm B1 o pl (some ⟨xb', 0, none⟩) lhs.length ch aq lqs.length cq lhs lqs _ u1 u2 h3 o2 hszh hszq).mono ?_
          rintro e w7 ⟨a7, c7, rfl, own7, b7⟩
          have d2 := keep_cell b7 u2
          have g2 := ((bcell b7).2 o (pl * 3 + 2) ob2).trans f2
          have lo7 := lt_of_cell d2
          have hlen : (lqs.take (Ch.convH lhs lqs) ++ ([⟨t, jm⟩] : List Ch.Hold) ++ lqs.drop (Ch.convH lhs lqs)).length = lqs.length + 1 := by have := Ch.conv_le lhs lqs; simp; omega
          have hf : ∀ g ∈ blks (.slice (some ⟨xb', 0, none⟩) lhs.length ch, .slice a7 (lqs.length + 1) c7), g ∈ blks (.slice (some ⟨xb', 0, none⟩) lhs.length ch, .slice aq lqs.length cq) ∨ U0.heap.size ≤ g := by
            intro g hg
            simp only [blks, List.mem_append, Option.mem_toList] at hg ⊢
            rcases hg with hg | hg
            · exact .inl (.inl hg)
            · exact .inr (owns_lt own7 g hg).1
          have ownx := ownU.swap (j := 2) (z := .slice a7 (lqs.length + 1) c7) hp (below_grown b7 none) (fun g hg => by cases hg) (l := ⟨r, lhs, lqs.take (Ch.convH lhs lqs) ++ [⟨t, jm⟩] ++ lqs.drop (Ch.convH lhs lqs)⟩) hr0.out.symm (owns_below o1 b7) (by simp only [hlen]; exact owns_base own7 hBU) (fun g h1 h2 => by have := (owns_lt o1 g h1).2; have := (owns_lt own7 g h2).1; omega) hf (.inr ⟨rfl, rfl, rfl⟩)
          rw [← HLX.out] at ownx
          have hst := (ownU.below b7).row.stored (pl * 3 + 2) (.slice a7 (lqs.length + 1) c7)
          have mv := ((moved_grown (v := .slice (some ⟨o, 0, none⟩) m3 c3) (vs' := vs3.set pl (.slice (some ⟨xb', 0, none⟩) lhs.length ch, .slice a7 (lqs.length + 1) c7)) hp rfl (gr_trans (below_grown b7 (some o)) hst.2) (fun g hg => by cases hg; simp [Value.ownBlock]) hf).below ownU hBU)
          have hRx := heap_lower mv lz hRU
          have BWx := BWU.trans (mv.mono (by omega))
          clear own7 hf hst mv hlen
          obtain ⟨⟨x0, x1, x2, x3⟩, ff0, ff1, ff2, ff3⟩ := row4 hRx
          have lrx := lt_of_cell x0
          have OX := hid ownx
          clear ownx
          go_wp2
          exact bodyPost_ret (v := .agg #[.int .i64 0, .bool false, .slice none 0 0, .slice (some ⟨o, 0, none⟩) m3 c3]) (by simp [results, Try.results54, go_sem, x0, x1, x2, x3]) rfl ⟨_, _, _, by rw [HAX.out], by rw [HAX.out]; exact ⟨_, ((((OX.out.setLow hwl _ _).setLow hwl _ _).setLow hwl _ _).setLow hwl _ _).base (by omega)⟩, (BWx.setCell (p := ⟨w.heap.size, 0, none⟩) (Nat.le_refl _) _ |>.setCell (p := ⟨w.heap.size, 1, none⟩) (Nat.le_refl _) _ |>.setCell (p := ⟨w.heap.size, 2, none⟩) (Nat.le_refl _) _ |>.setCell (p := ⟨w.heap.size, 3, none⟩) (Nat.le_refl _) _)⟩
      · have HE := hid ((HCP.out hc hft).trans (by rw [HPY.out]))
        have HAX := hid (HXO.out _ _ HE.out)
        have HLX := hid (HLS.out _ HE.out)
        simp only at HLX
        go_wp2_with fail
        refine (l6Fits_any (some ⟨xb', 0, none⟩) lhs.length ch t jm lhs _ h3 hszh HNM.out HJI.out).mono ?_
        rintro e w5 ⟨rfl, hw5⟩
        obtain rfl : U0 = w5 := hw5.symm
        rw [hft]
        have hd1 := o1.frozenAt (j * 2 + 1)
        have hst := o1.stored (j * 2 + 1) (.int .i64 jm)
        rw [hcells_setm lhs j ⟨t, jm⟩ hj HJT.out] at hst
        have ownx := ownU.turn hp hst.2 (fun g hg => by cases hg; simp [blks, Value.ownBlock]) ⟨r, lhs.set j ⟨t, jm⟩, lqs⟩ hr0.out.symm (by simp only [List.length_set]; exact hst.1) (owns_grown o2 hst.2 (fun g hg e => by cases e; exact ne xb' rfl hg))
        rw [← HLX.out] at ownx
        have mv : Below B1 U0 (U0.setCell ⟨xb', j * 2 + 1, none⟩ (.int .i64 jm)) := ((Below.refl B1 U0).mono (Nat.le_refl _)).grown hst.2 hBU (fun g hg => by cases hg; exact hxb.1)
        have hRx := heap_lower mv lz hRU
        have BWx := BWU.trans (mv.mono (by omega))
        clear hst mv
        obtain ⟨⟨x0, x1, x2, x3⟩, ff0, ff1, ff2, ff3⟩ := row4 hRx
        have lrx := lt_of_cell x0
        have OX := hid ownx
        clear ownx
        go_wp2
        exact bodyPost_ret (v := .agg #[.int .i64 0, .bool true, .slice none 0 0, .slice (some ⟨o, 0, none⟩) m3 c3]) (by simp [results, Try.results54, go_sem, x0, x1, x2, x3]) rfl ⟨_, _, _, by rw [HAX.out], by rw [HAX.out]; exact ⟨_, ((((OX.out.setLow hwl _ _).setLow hwl _ _).setLow hwl _ _).setLow hwl _ _).base (by omega)⟩, (BWx.setCell (p := ⟨w.heap.size, 0, none⟩) (Nat.le_refl _) _ |>.setCell (p := ⟨w.heap.size, 1, none⟩) (Nat.le_refl _) _ |>.setCell (p := ⟨w.heap.size, 2, none⟩) (Nat.le_refl _) _ |>.setCell (p := ⟨w.heap.size, 3, none⟩) (Nat.le_refl _) _)⟩
    · rw [hc] at HTB
      have HE := hid (HCV.out hc)
      have HAX := hid (HXO.out _ _ HE.out)
      have HLX := hid (HLS.out _ HE.out)
      simp only at HLX
      rw [HSM.out] at HLX
      go_wp2_with fail
      refine (l5Cov_any held mode _ HHM.out HM.out).mono ?_
      rintro e w5 ⟨rfl, hw5⟩
      obtain rfl : U0 = w5 := hw5.symm
      rw [HTB.out]
      have ownx := ownU
      rw [← HLX.out] at ownx
      have hRx := hRU
      have BWx := BWU
      obtain ⟨⟨x0, x1, x2, x3⟩, ff0, ff1, ff2, ff3⟩ := row4 hRx
      have lrx := lt_of_cell x0
      have OX := hid ownx
      clear ownx
      go_wp2
      exact bodyPost_ret (v := .agg #[.int .i64 0, .bool true, .slice none 0 0, .slice (some ⟨o, 0, none⟩) m3 c3]) (by simp [results, Try.results54, go_sem, x0, x1, x2, x3]) rfl ⟨_, _, _, by rw [HAX.out], by rw [HAX.out]; exact ⟨_, ((((OX.out.setLow hwl _ _).setLow hwl _ _).setLow hwl _ _).setLow hwl _ _).base (by omega)⟩, (BWx.setCell (p := ⟨w.heap.size, 0, none⟩) (Nat.le_refl _) _ |>.setCell (p := ⟨w.heap.size, 1, none⟩) (Nat.le_refl _) _ |>.setCell (p := ⟨w.heap.size, 2, none⟩) (Nat.le_refl _) _ |>.setCell (p := ⟨w.heap.size, 3, none⟩) (Nat.le_refl _) _)⟩

end Go.Proofs.Yteblnejpohjjmaa
