/- The law FnExactReplayActs. -/
import Derived.Test.YtlpncikiaojmiaaRpK
import Derived.Test.YtlpncikiaojmiaaMz7
namespace Go.Proofs.Ytlpncikiaojmiaa
open Go.RowKit

set_option maxHeartbeats 4000000 in
theorem lawReplay_any (a1 : Option Addr) (n1 c1 : Nat) (base : List Ch.Row) (a2 : Option Addr) (n2 c2 : Nat) (ts : List Ch.Ac) (a3 : Option Addr) (n3 c3 : Nat) (cs : List Int) (w : World) (h1 : CellsAt w a1 (n1 * 3) (rcells base)) (h2 : AcAt w a2 n2 ts) (h3 : CellsAt w a3 (n3 * 1) (icells cs)) (hm1 : n1 ≤ 9223372036854775807) (hm2 : n2 ≤ 9223372036854775807) (hm3 : n3 ≤ 9223372036854775807) :
    Calls Try.prog 3 #[.slice a1 n1 c1, .slice a2 n2 c2, .slice a3 n3 c3] w fun e w' => e = .returned (.bool true) ∧ Below w.heap.size w w' := by
  have HL := h2.len
  by_cases hbig : 1048576 < n3
  · go_enter Try.func3, Try.ntmps3
    go_wp2
    go_ret
    exact ⟨rfl, Below.refl _ _⟩
  have hn3 : n3 ≤ 1048576 := by omega
  clear hbig
  have S1 := fun W => sz_from a1 n1 c1 1048576 W (by omega) hm1
  by_cases hbig : 1048576 < n1
  · rw [if_neg (by omega)] at S1
    go_enter Try.func3, Try.ntmps3
    go_wp2_with fail
    refine (S1 _).mono ?_
    rintro e w1 ⟨rfl, hw1⟩
    obtain rfl := hw1.symm
    go_wp2
    go_ret
    exact ⟨rfl, Below.refl _ _⟩
  have hn1 : n1 ≤ 1048576 := by omega
  rw [if_pos hn1] at S1
  obtain ⟨Lf, hLf⟩ : ∃ Lf : Nat, Hid (Lf = 1048576 - n1) := ⟨_, rfl⟩
  have eL : ((1048576 : Nat) : Int) - (n1 : Int) = (Lf : Int) := by have := hLf.out; omega
  have hLe : Lf ≤ 1048576 := by have := hLf.out; omega
  rw [eL] at S1
  have S2 := fun W hW => szActS_any a2 n2 c2 Lf ts W hW hLe hm2
  have hl0 : ¬ (Lf : Int) < 0 := by omega
  clear eL hbig
  by_cases hbig : Lf < Ch.acSize ts
  · rw [← Ch.acLeft_big hbig] at S2
    clear hbig hLf
    go_enter Try.func3, Try.ntmps3
    go_wp2_with fail
    refine (S1 _).mono ?_
    rintro e w1 ⟨rfl, hw1⟩
    obtain rfl := hw1.symm
    go_wp2_with fail
    refine (S2 _ h2).mono ?_
    rintro e w1 ⟨rfl, b1⟩
    go_wp2
    go_ret
    exact ⟨rfl, b1⟩
  have HS : Hid (Ch.acSize ts ≤ 1048576) := by show _ ≤ _; omega
  have hn2 : n2 ≤ 1048576 := by have := Ch.acSize_len HS.out; have := HL.out; omega
  have hal : Hid (∀ i, (Ch.acAt ts i).an.length ≤ 9223372036854775807) := fun i => by have := Ch.ac_one HS.out i; omega
  obtain ⟨M2, HM⟩ : ∃ M : Nat, Hid (Ch.acLeft Lf ts = (M : Int)) := ⟨Lf - Ch.acSize ts, by show _ = _; rw [Ch.acLeft, if_pos (by omega)]; omega⟩
  rw [HM.out] at S2
  generalize (Lf : Int) = L1 at *
  clear hbig hLe hLf
  have IK := fun (s : Int) (A : Option Addr) (B lo hi : Nat) (vs : List Value) (w : World) (h : OwnAc w B (.slice A n2 n2) n2 vs ts) (h0 : ∀ (i : Nat) (x : Value) (g : Nat), vs[i]? = some x → x.ownBlock = some g → lo ≤ g ∧ g < hi) (h1 : ∀ g, (Value.slice A n2 n2).ownBlock = some g → lo ≤ g ∧ g < hi) (hs0 : 0 < s) (hs1 : s ≤ 1073741824) => markActS_in s B lo hi A n2 n2 ts vs w h h0 h1 HS.out hs0 hs1
  have hp0 := Ch.acPos_small HS.out n2 (by have := HL.out; omega)
  generalize Ch.acPos ts n2 = pz at *
  have SI := fun (W : World) (A1 A2 A3 : Option Addr) (hW1 : CellsAt W A1 (n1 * 3) (rcells base)) (hW2 : AcAt W A2 n2 ts) (hW3 : CellsAt W A3 (n3 * 1) (icells cs)) => specReplay_any A1 n1 n1 base A2 n2 n2 ts A3 n3 n3 cs W hW1 hW2 hW3 hn1 hn2 hn3
  have II := fun (W : World) (A1 A2 A3 : Option Addr) (hW1 : CellsAt W A1 (n1 * 3) (rcells base)) (hW2 : AcAt W A2 n2 ts) (hW3 : CellsAt W A3 (n3 * 1) (icells cs)) => implReplay_any A1 n1 n1 base A2 n2 n2 ts A3 n3 n3 cs W hW1 hW2 hW3 hn1 hn2 hn3
  generalize Ch.repR base ts cs = RR at *
  obtain ⟨c, K, R⟩ := RR
  simp only at SI II
  go_enter Try.func3, Try.ntmps3
  go_wp2_with fail
  refine (S1 _).mono ?_
  rintro e w1 ⟨rfl, hw1⟩
  obtain rfl := hw1.symm
  clear S1
  go_wp2_with fail
  refine (S2 _ h2).mono ?_
  rintro e w0 ⟨rfl, B0⟩
  clear S2
  go_wp2_with fail
  refine (toRowS_any a1 n1 c1 base _ (h1.below B0) hn1).mono ?_
  rintro e w1 ⟨rfl, o1, bb⟩
  have Bw1 := B0.trans (bb.mono B0.size)
  clear B0 bb
  go_wp2_with fail
  refine (toActS_any a2 n2 c2 ts _ (h2.below Bw1) HS.out).mono ?_
  rintro e w2 ⟨rfl, ⟨v1, p1⟩, bb⟩
  have q1 := p1.at hal.out
  clear p1
  have o1 := owns_below o1 bb
  have Bw2 := Bw1.trans (bb.mono Bw1.size)
  clear Bw1 bb
  go_wp2_with fail
  refine (toInt64S_any a3 n3 c3 cs _ (h3.below Bw2) hn3).mono ?_
  rintro e w3 ⟨rfl, r1, bb⟩
  have o1 := owns_below o1 bb
  have q1 := q1.below bb
  have Bw3 := Bw2.trans (bb.mono Bw2.size)
  clear Bw2 bb
  go_wp2_with fail
  refine (SI _ _ _ _ (owns_cells o1) q1 (owns_cells r1)).mono ?_
  rintro e w4 ⟨sa, sm, sc, rfl, hsm, os, bb⟩
  have LS := owns_lt os
  have zS := bb.size
  have o1 := owns_below o1 bb
  have q1 := q1.below bb
  have r1 := owns_below r1 bb
  have Bw4 := Bw3.trans (bb.mono Bw3.size)
  clear Bw3 bb
  clear o1 q1 r1 SI
  have zw := Bw4.size
  go_wp2_with fail
  refine (toRowS_at (w4.heap.size + 1) a1 n1 c1 base _ (by simp) (h1.below (Bw4.alloc Bw4.size _)) hn1).mono ?_
  rintro e w5 ⟨rfl, ox, bb⟩
  have x0 := box_cell bb 0
  have x1 := box_cell bb 1
  have x2 := box_cell bb 2
  simp at x0 x1 x2
  have z5 := bb.size
  simp at z5
  have bb := below_box bb
  have os := owns_below os bb
  have Bw5 := Bw4.trans (bb.mono Bw4.size)
  have LX := owns_lt ox
  clear Bw4 bb
  go_wp2_with fail
  refine (toActS_at w5.heap.size a2 n2 c2 ts _ rfl (h2.below Bw5) HS.out).mono ?_
  rintro e w6 ⟨rfl, ⟨v6, p6⟩, bb⟩
  have q6 := p6.at hal.out
  have z6 := bb.size
  have bp := Below.refl w6.heap.size w6
  have os := owns_below os bb
  have ox := owns_below ox bb
  have x0 := keep_cell bb x0
  have x1 := keep_cell bb x1
  have x2 := keep_cell bb x2
  have Bw6 := Bw5.trans (bb.mono Bw5.size)
  clear Bw5 bb
  go_wp2_with fail
  refine (toInt64S_any a3 n3 c3 cs _ (h3.below Bw6) hn3).mono ?_
  rintro e w7 ⟨rfl, oi, bb⟩
  have z7 := bb.size
  have LI := owns_lt oi
  have os := owns_below os bb
  have ox := owns_below ox bb
  have x0 := keep_cell bb x0
  have x1 := keep_cell bb x1
  have x2 := keep_cell bb x2
  have q6 := q6.below bb
  have bp := bp.trans (bb.mono bp.size)
  have Bw7 := Bw6.trans (bb.mono Bw6.size)
  clear Bw6 bb
  go_wp2_with fail
  refine (II _ _ _ _ (owns_cells ox) q6 (owns_cells oi)).mono ?_
  rintro e w8 ⟨ga, gm, gc, rfl, hgm, og, bb⟩
  have z8 := bb.size
  have LG := owns_lt og
  have os := owns_below os bb
  have ox := owns_below ox bb
  have x0 := keep_cell bb x0
  have x1 := keep_cell bb x1
  have x2 := keep_cell bb x2
  have q6 := q6.below bb
  have bp := bp.trans (bb.mono bp.size)
  have oi := owns_below oi bb
  have Bw8 := Bw7.trans (bb.mono Bw7.size)
  clear Bw7 bb
  have E1 : gm = sm := by have e1 := os.1; have e2 := og.1; omega
  subst E1
  have hq : ((1 + 3 * (gm : Int)) != 1 + 3 * gm) = false := by simp
  have lt8 : w4.heap.size < w8.heap.size := by omega
  go_wp2_with fail
  refine (eqReplay_same _ _ ga sa gm gc sc R _ (owns_cells (og.alloc _)) (owns_cells (os.alloc _)) (by omega)).mono ?_
  rintro e w9 ⟨rfl, bb⟩
  have y0 := box_cell bb 0
  have y1 := box_cell bb 1
  have y2 := box_cell bb 2
  simp at y0 y1 y2
  have z9 := bb.size
  simp at z9
  have bb := below_box bb
  have os := owns_below os bb
  have ox := owns_below ox bb
  have x0 := keep_cell bb x0
  have x1 := keep_cell bb x1
  have x2 := keep_cell bb x2
  have q6 := q6.below bb
  have bp := bp.trans (bb.mono bp.size)
  have oi := owns_below oi bb
  have og := owns_below og bb
  have Bw9 := Bw8.trans (bb.mono Bw8.size)
  clear Bw8 bb
  go_wp2_with fail
  refine (toRowS_any a1 n1 c1 base _ (h1.below Bw9) hn1).mono ?_
  rintro e w10 ⟨rfl, ov, bb⟩
  have os := owns_below os bb
  have ox := owns_below ox bb
  have x0 := keep_cell bb x0
  have x1 := keep_cell bb x1
  have x2 := keep_cell bb x2
  have q6 := q6.below bb
  have bp := bp.trans (bb.mono bp.size)
  have oi := owns_below oi bb
  have og := owns_below og bb
  have y0 := keep_cell bb y0
  have y1 := keep_cell bb y1
  have y2 := keep_cell bb y2
  have Bw10 := Bw9.trans (bb.mono Bw9.size)
  clear Bw9 bb
  go_wp2_with fail
  refine (eqRowS_same _ _ n1 n1 n1 base _ (owns_cells ox) (owns_cells ov) (by omega)).mono ?_
  rintro e w11 ⟨rfl, bb⟩
  have os := owns_below os bb
  have ox := owns_below ox bb
  have x0 := keep_cell bb x0
  have x1 := keep_cell bb x1
  have x2 := keep_cell bb x2
  have q6 := q6.below bb
  have bp := bp.trans (bb.mono bp.size)
  have oi := owns_below oi bb
  have og := owns_below og bb
  have y0 := keep_cell bb y0
  have y1 := keep_cell bb y1
  have y2 := keep_cell bb y2
  have ov := owns_below ov bb
  have Bw11 := Bw10.trans (bb.mono Bw10.size)
  clear Bw10 bb
  clear ov
  go_wp2_with fail
  refine (toActS_any a2 n2 c2 ts _ (h2.below Bw11) HS.out).mono ?_
  rintro e w12 ⟨rfl, ⟨v12, p12⟩, bb⟩
  have q12 := p12.at hal.out
  clear p12
  have os := owns_below os bb
  have ox := owns_below ox bb
  have x0 := keep_cell bb x0
  have x1 := keep_cell bb x1
  have x2 := keep_cell bb x2
  have q6 := q6.below bb
  have bp := bp.trans (bb.mono bp.size)
  have oi := owns_below oi bb
  have og := owns_below og bb
  have y0 := keep_cell bb y0
  have y1 := keep_cell bb y1
  have y2 := keep_cell bb y2
  have Bw12 := Bw11.trans (bb.mono Bw11.size)
  clear Bw11 bb
  go_wp2_with fail
  refine (eqActS_same _ _ n2 n2 n2 ts _ q6 q12 HS.out).mono ?_
  rintro e w13 ⟨rfl, bb⟩
  have os := owns_below os bb
  have ox := owns_below ox bb
  have x0 := keep_cell bb x0
  have x1 := keep_cell bb x1
  have x2 := keep_cell bb x2
  have q6 := q6.below bb
  have bp := bp.trans (bb.mono bp.size)
  have oi := owns_below oi bb
  have og := owns_below og bb
  have y0 := keep_cell bb y0
  have y1 := keep_cell bb y1
  have y2 := keep_cell bb y2
  have q12 := q12.below bb
  have Bw13 := Bw12.trans (bb.mono Bw12.size)
  clear Bw12 bb
  clear q12
  go_wp2_with fail
  refine (toInt64S_any a3 n3 c3 cs _ (h3.below Bw13) hn3).mono ?_
  rintro e w14 ⟨rfl, ov, bb⟩
  have os := owns_below os bb
  have ox := owns_below ox bb
  have x0 := keep_cell bb x0
  have x1 := keep_cell bb x1
  have x2 := keep_cell bb x2
  have q6 := q6.below bb
  have bp := bp.trans (bb.mono bp.size)
  have oi := owns_below oi bb
  have og := owns_below og bb
  have y0 := keep_cell bb y0
  have y1 := keep_cell bb y1
  have y2 := keep_cell bb y2
  have Bw14 := Bw13.trans (bb.mono Bw13.size)
  clear Bw13 bb
  go_wp2_with fail
  refine (eqInts_same _ _ n3 n3 n3 cs _ (owns_cells oi) (owns_cells ov) (by omega)).mono ?_
  rintro e w15 ⟨rfl, bb⟩
  have os := owns_below os bb
  have ox := owns_below ox bb
  have x0 := keep_cell bb x0
  have x1 := keep_cell bb x1
  have x2 := keep_cell bb x2
  have q6 := q6.below bb
  have bp := bp.trans (bb.mono bp.size)
  have oi := owns_below oi bb
  have og := owns_below og bb
  have y0 := keep_cell bb y0
  have y1 := keep_cell bb y1
  have y2 := keep_cell bb y2
  have ov := owns_below ov bb
  have Bw15 := Bw14.trans (bb.mono Bw14.size)
  clear Bw14 bb
  clear ov
  clear q6
  go_wp2_with fail
  refine (markRowS_own 1 _ n1 _ n1 base _ (by decide) (by decide) ox (by omega)).mono ?_
  rintro e w16 ⟨rfl, _, g16⟩
  have kk1 : (0 : Int) < 1 + 3 * (n1 : Int) := by omega
  have kk2 : 1 + 3 * (n1 : Int) ≤ 1073741824 := by omega
  generalize (1 + 3 * (n1 : Int)) = k1 at *
  have os := owns_grown os g16 (fun g hg hk => by have := LS g hg; have := LX g hk; omega)
  have og := owns_grown og g16 (fun g hg hk => by have := LG g hg; have := LX g hk; omega)
  have oi := owns_grown oi g16 (fun g hg hk => by have := LI g hg; have := LX g hk; omega)
  have x0 := grown_cell g16 x0 (fun hk => by have := LX _ hk; omega)
  have x1 := grown_cell g16 x1 (fun hk => by have := LX _ hk; omega)
  have x2 := grown_cell g16 x2 (fun hk => by have := LX _ hk; omega)
  have y0 := grown_cell g16 y0 (fun hk => by have := LX _ hk; omega)
  have y1 := grown_cell g16 y1 (fun hk => by have := LX _ hk; omega)
  have y2 := grown_cell g16 y2 (fun hk => by have := LX _ hk; omega)
  have o6 := (p6.below bp).grown g16 (fun g hg hk => by have := LX g hk; have := (p6.lt0 g hg).1; omega) (fun i x g hx hg hk => by have := LX g hk; have := (p6.lt i x g hx hg).1; omega)
  have Bw16 := Bw15.grown g16 Bw15.size (by intro k hk; have := LX k hk; omega)
  clear Bw15
  clear bp ox g16
  go_wp2_with fail
  refine (IK k1 _ _ w5.heap.size w6.heap.size v6 _ o6 p6.lt p6.lt0 kk1 kk2).mono ?_
  rintro e w17 ⟨rfl, g17⟩
  have kk3 : (0 : Int) < k1 + (pz : Int) := by omega
  have kk4 : k1 + (pz : Int) ≤ 1099511627776 := by omega
  generalize (k1 + (pz : Int)) = k2 at *
  have os := g17.owns os (fun g hg => .inl (by have := (LS g hg).2; omega))
  have og := g17.owns og (fun g hg => .inr (by have := (LG g hg).1; omega))
  have oi := g17.owns oi (fun g hg => .inr (by have := (LI g hg).1; omega))
  have x0 := within_cell g17 x0 (.inl (by omega))
  have x1 := within_cell g17 x1 (.inl (by omega))
  have x2 := within_cell g17 x2 (.inl (by omega))
  have y0 := within_cell g17 y0 (.inr (by omega))
  have y1 := within_cell g17 y1 (.inr (by omega))
  have y2 := within_cell g17 y2 (.inr (by omega))
  have Bw17 := Bw16.trans (g17.toBelow (by have := Bw16.size; omega) Bw16.size)
  clear Bw16 g17 o6 p6 IK
  go_wp2_with fail
  refine (markInts_any k2 _ n3 _ n3 cs _ kk3 kk4 oi (by omega)).mono ?_
  rintro e w18 ⟨rfl, _, g18⟩
  have hk0 : ¬ (k2 + (n3 : Int)) < 0 := by omega
  generalize (k2 + (n3 : Int)) = k3 at *
  have os := owns_grown os g18 (fun g hg hk => by have := LS g hg; have := LI g hk; omega)
  have og := owns_grown og g18 (fun g hg hk => by have := LG g hg; have := LI g hk; omega)
  have x0 := grown_cell g18 x0 (fun hk => by have := LI _ hk; omega)
  have x1 := grown_cell g18 x1 (fun hk => by have := LI _ hk; omega)
  have x2 := grown_cell g18 x2 (fun hk => by have := LI _ hk; omega)
  have y0 := grown_cell g18 y0 (fun hk => by have := LI _ hk; omega)
  have y1 := grown_cell g18 y1 (fun hk => by have := LI _ hk; omega)
  have y2 := grown_cell g18 y2 (fun hk => by have := LI _ hk; omega)
  have Bw18 := Bw17.grown g18 Bw17.size (by intro k hk; have := LI k hk; omega)
  clear Bw17
  clear oi g18
  go_wp2_with fail
  refine (eqReplay_same _ _ ga sa gm gc sc R _ (owns_cells og) (owns_cells os) (by omega)).mono ?_
  rintro e w19 ⟨rfl, bb⟩
  have os := owns_below os bb
  have x0 := keep_cell bb x0
  have x1 := keep_cell bb x1
  have x2 := keep_cell bb x2
  have og := owns_below og bb
  have y0 := keep_cell bb y0
  have y1 := keep_cell bb y1
  have y2 := keep_cell bb y2
  have Bw19 := Bw18.trans (bb.mono Bw18.size)
  clear Bw18 bb
  go_wp2_with fail
  refine (markReplay_any _ _ _ ga gm gc R _ og (by omega)).mono ?_
  rintro e w20 ⟨rfl, on, g20⟩
  have os := owns_grown os g20 (fun g hg hk => by have := LS g hg; have := LG g hk; omega)
  have x0 := grown_cell g20 x0 (fun hk => by have := LG _ hk; omega)
  have x1 := grown_cell g20 x1 (fun hk => by have := LG _ hk; omega)
  have x2 := grown_cell g20 x2 (fun hk => by have := LG _ hk; omega)
  have y0 := grown_cell g20 y0 (fun hk => by have := LG _ hk; omega)
  have y1 := grown_cell g20 y1 (fun hk => by have := LG _ hk; omega)
  have y2 := grown_cell g20 y2 (fun hk => by have := LG _ hk; omega)
  have Bw20 := Bw19.grown g20 Bw19.size (by intro k hk; have := LG k hk; omega)
  clear Bw19
  clear og g20
  go_wp2_with fail
  refine (heldReplay_any _ _ ga gm gc _ (owns_cells on) (by omega)).mono ?_
  rintro e w21 ⟨rfl, bb⟩
  have os := owns_below os bb
  have x0 := keep_cell bb x0
  have x1 := keep_cell bb x1
  have x2 := keep_cell bb x2
  have y0 := keep_cell bb y0
  have y1 := keep_cell bb y1
  have y2 := keep_cell bb y2
  have on := owns_below on bb
  have Bw21 := Bw20.trans (bb.mono Bw20.size)
  clear Bw20 bb
  go_wp2_with fail
  refine (toRowS_any a1 n1 c1 base _ (h1.below Bw21) hn1).mono ?_
  rintro e w22 ⟨rfl, o1, bb⟩
  have os := owns_below os bb
  have x0 := keep_cell bb x0
  have x1 := keep_cell bb x1
  have x2 := keep_cell bb x2
  have y0 := keep_cell bb y0
  have y1 := keep_cell bb y1
  have y2 := keep_cell bb y2
  have on := owns_below on bb
  have Bw22 := Bw21.trans (bb.mono Bw21.size)
  clear Bw21 bb
  go_wp2_with fail
  refine (toActS_any a2 n2 c2 ts _ (h2.below Bw22) HS.out).mono ?_
  rintro e w23 ⟨rfl, ⟨v1, p1⟩, bb⟩
  have q1 := p1.at hal.out
  clear p1
  have os := owns_below os bb
  have x0 := keep_cell bb x0
  have x1 := keep_cell bb x1
  have x2 := keep_cell bb x2
  have y0 := keep_cell bb y0
  have y1 := keep_cell bb y1
  have y2 := keep_cell bb y2
  have on := owns_below on bb
  have o1 := owns_below o1 bb
  have Bw23 := Bw22.trans (bb.mono Bw22.size)
  clear Bw22 bb
  go_wp2_with fail
  refine (toInt64S_any a3 n3 c3 cs _ (h3.below Bw23) hn3).mono ?_
  rintro e w24 ⟨rfl, r1, bb⟩
  have os := owns_below os bb
  have x0 := keep_cell bb x0
  have x1 := keep_cell bb x1
  have x2 := keep_cell bb x2
  have y0 := keep_cell bb y0
  have y1 := keep_cell bb y1
  have y2 := keep_cell bb y2
  have on := owns_below on bb
  have o1 := owns_below o1 bb
  have q1 := q1.below bb
  have Bw24 := Bw23.trans (bb.mono Bw23.size)
  clear Bw23 bb
  go_wp2_with fail
  refine (II _ _ _ _ (owns_cells o1) q1 (owns_cells r1)).mono ?_
  rintro e w25 ⟨ha, hm, hc, rfl, hhm, oh, bb⟩
  have os := owns_below os bb
  have x0 := keep_cell bb x0
  have x1 := keep_cell bb x1
  have x2 := keep_cell bb x2
  have y0 := keep_cell bb y0
  have y1 := keep_cell bb y1
  have y2 := keep_cell bb y2
  have on := owns_below on bb
  have o1 := owns_below o1 bb
  have q1 := q1.below bb
  have r1 := owns_below r1 bb
  have Bw25 := Bw24.trans (bb.mono Bw24.size)
  clear Bw24 bb
  clear o1 q1 r1
  have E2 : hm = gm := by have e1 := os.1; have e2 := oh.1; omega
  subst E2
  have l1 := lt_of_cell x0
  have l2 := lt_of_cell y0
  go_wp2_with fail
  refine (eqReplay_same _ _ ha sa hm hc sc R _ (owns_cells (oh.alloc _)) (owns_cells (os.alloc _)) (by omega)).mono ?_
  rintro e w26 ⟨rfl, bb⟩
  have bb := below_box bb
  have os := owns_below os bb
  have x0 := keep_cell bb x0
  have x1 := keep_cell bb x1
  have x2 := keep_cell bb x2
  have y0 := keep_cell bb y0
  have y1 := keep_cell bb y1
  have y2 := keep_cell bb y2
  have on := owns_below on bb
  have Bw26 := Bw25.trans (bb.mono Bw25.size)
  clear Bw25 bb
  go_wp2_with fail
  refine (heldReplay_any _ _ ga hm gc _ (owns_cells on) (by omega)).mono ?_
  rintro e w27 ⟨rfl, bb⟩
  go_wp2
  go_ret
  exact ⟨rfl, Bw26.trans (bb.mono Bw26.size)⟩
end Go.Proofs.Ytlpncikiaojmiaa
