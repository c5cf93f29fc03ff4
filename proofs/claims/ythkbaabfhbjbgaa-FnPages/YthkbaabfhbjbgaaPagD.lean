/- The draw of bytes: any bytes, nineteen at most. -/
import Derived.Test.YthkbaabfhbjbgaaPagC
namespace Go.Proofs.Ythkbaabfhbjbgaa
open Go.RowKit

/-- Bytes of the call's own. -/
def OwnB (w : World) (B g q cp : Nat) : Prop := ∃ zs, Ch.AllB zs ∧ w.ownsRow B 5 1 (.slice (some ⟨g, 0, none⟩) q cp) q (bts zs)
theorem OwnB.set {w : World} {B g q cp : Nat} (h : OwnB w B g q cp) {j : Nat} {y : Int} (h0 : 0 ≤ y) (h1 : y ≤ 255) : OwnB (w.setCell ⟨g, j, none⟩ (.int .u8 y)) B g q cp := by
  obtain ⟨zs, hz, own⟩ := h
  refine ⟨zs.set j y, fun z hzm => ?_, ?_⟩
  · rcases List.mem_or_eq_of_mem_set hzm with h | rfl
    · exact hz z h
    · exact ⟨h0, h1⟩
  · have := (own.stored j (.int .u8 y)).1
    have e : bts (zs.set j y) = (bts zs).set j (.int .u8 y) := by simp [bts]
    rw [e]; exact this
theorem OwnB.grown {w w' : World} {B g q cp : Nat} {s : Nat} (h : OwnB w B g q cp) (hg : w.grownBy w' (some s)) (hs : s < B) : OwnB w' B g q cp := by
  obtain ⟨zs, hz, own⟩ := h
  exact ⟨zs, hz, owns_grown own hg (fun g' e => by have := (owns_lt own g' e).1; simp; omega)⟩
theorem OwnB.facts {w : World} {B g q cp : Nat} (h : OwnB w B g q cp) {j : Nat} (hj : j < q) : (∃ u, w.cell? ⟨g, j, none⟩ = some u) ∧ w.frozen? ⟨g, j, none⟩ = false := by
  obtain ⟨zs, hz, own⟩ := h
  exact ⟨owns_some own (by omega), own.frozenAt j⟩
theorem OwnB.bounds {w : World} {B g q cp : Nat} (h : OwnB w B g q cp) : B ≤ g ∧ g < w.heap.size := by
  obtain ⟨zs, hz, own⟩ := h
  exact owns_bounds own
theorem OwnB.cap {w : World} {B g q cp : Nat} (h : OwnB w B g q cp) : q ≤ cp := by
  obtain ⟨zs, hz, own⟩ := h
  rcases own.2 with ⟨hv, _⟩ | ⟨g', cap', cur, hv, _, _, hc, _⟩
  · simp at hv
  · simp only [Value.slice.injEq, true_and] at hv
    omega
/-- A beginning of them. -/
theorem OwnB.front {w : World} {B g q cp : Nat} (h : OwnB w B g q cp) {j : Nat} (hj : j ≤ q) : ∃ zs, Ch.AllB zs ∧ CellsAt w (some ⟨g, 0, none⟩) j (bts zs) := by
  obtain ⟨zs, hz, own⟩ := h
  have hc := owns_cells own
  rw [Nat.mul_one] at hc
  have hl := hc.len.out
  refine ⟨zs.take j, fun z hm => hz z (List.mem_of_mem_take hm), by simp [bts]; omega, fun hp => ?_⟩
  obtain ⟨b, off, hb, hcc⟩ := hc.2 (by omega)
  refine ⟨b, off, hb, fun i hi => ?_⟩
  rw [hcc i (by omega)]
  simp [bts, hi]

set_option maxHeartbeats 4000000 in
theorem drawUnp_any (a : Option Addr) (n cap : Nat) (zs : List Int) (w : World) (h : CellsAt w a n (bts zs)) (hb : IsB zs) (hn : n ≤ 1048576) :
    Calls Try.prog 10 #[.slice a n cap] w fun e w' => (∃ g m cp, e = .returned (.slice (some ⟨g, 0, none⟩) m cp) ∧ m ≤ 19 ∧ m ≤ cp ∧ ∃ ys, Ch.AllB ys ∧ CellsAt w' (some ⟨g, 0, none⟩) m (bts ys)) ∧ Below w.heap.size w w' := by
  go_enter Try.func10, Try.ntmps10
  go_wp2_with fail
  refine (source_any a n cap zs w h).mono ?_
  rintro e w1 ⟨rfl, s1, b1⟩
  have z1 := s1.lt
  go_wp2_with fail
  refine (next_any 5 w.heap.size a n cap _ zs _ s1 hb hn (by omega) (by omega) (by omega)).mono ?_
  rintro e w2 ⟨⟨x, x0, x1, rfl⟩, s2, g2⟩
  obtain ⟨m, rfl⟩ := Int.eq_ofNat_of_zero_le x0
  have z2 := g2.size
  go_wp2_with fail
  refine (rows_any m w.heap.size a n cap _ zs _ s2 hb hn (by omega) (by omega)).mono ?_
  rintro e w3 ⟨⟨g, cp, rfl, rs, fit, own3⟩, ⟨k3, hk3, s3⟩, g3⟩
  have z3 := g3.size
  have gr3 := gr_trans g2 g3
  go_wp2_with fail
  refine (specPack_any _ m cp rs _ (owns_cells own3) (by omega) fit).mono ?_
  rintro e w4 ⟨g4, c4, rfl, own4, b4⟩
  have hml := (owns_cells own3).rlen.out
  have hB : Ch.AllB (Ch.pageB rs) := by
    intro z hz
    rcases List.mem_append.1 hz with hz | hz
    · exact Ch.packed_bytes _ rs (by omega) (by omega) fit z hz
    · exact Ch.sum_bytes _ z hz
  have s4 := s3.below b4 s3.lt
  have gr4 := gr_trans gr3 (gr_below b4 _)
  have z4 := gr4.size
  have O4 : OwnB w4 w1.heap.size g4 (3 + 4 * m) c4 := ⟨_, hB, owns_base own4 (by omega)⟩
  obtain ⟨p, hp, hp1, hp2⟩ : ∃ p, 3 + 4 * m = p + 2 ∧ 1 ≤ p ∧ p ≤ 17 := ⟨1 + 4 * m, by omega, by omega, by omega⟩
  rw [hp] at O4
  rw [hp]
  clear own3 own4 b4 hml hB gr3 g3 g2 s2 s3 s1 fit hp
  go_wp2_with fail
  refine (next_any 8 w.heap.size a n cap _ zs _ s4 hb hn (by omega) (by omega) (by omega)).mono ?_
  rintro e w5 ⟨⟨v, v0, v1, rfl⟩, s5, g5⟩
  have O5 := O4.grown g5 (by omega)
  have gr5 := gr_trans gr4 g5
  have z5 := gr5.size
  have hcp := O5.cap
  have hgb := O5.bounds
  clear O4 gr4 g5 s4
  have hfin : ∀ w', w1.grownBy w' (some w.heap.size) → Below w.heap.size w w' := fun w' gr => b1.trans (below_gr gr (Nat.le_refl _) b1.size)
  have hv : v = 0 ∨ v = 1 ∨ v = 2 ∨ 2 < v := by omega
  rcases hv with rfl | rfl | rfl | hv
  · go_wp2_with fail
    refine (next_any ((p : Int) + 2) w.heap.size a n cap _ zs _ s5 hb hn (by omega) (by omega) (by omega)).mono ?_
    rintro e w6 ⟨⟨j, j0, j1, rfl⟩, s6, g6⟩
    obtain ⟨j, rfl⟩ := Int.eq_ofNat_of_zero_le j0
    have O6 := O5.grown g6 (by omega)
    have gr6 := gr_trans gr5 g6
    go_wp2_with fail
    refine (next_any 256 w.heap.size a n cap _ zs _ s6 hb hn (by omega) (by omega) (by omega)).mono ?_
    rintro e w7 ⟨⟨y, y0, y1, rfl⟩, s7, g7⟩
    have O7 := O6.grown g7 (by omega)
    have gr7 := gr_trans gr6 g7
    have z7 := gr7.size
    obtain ⟨⟨u, hc⟩, hfz⟩ := O7.facts (j := j) (by omega)
    have hw : IntKind.u8.wrap y = y := by simp [IntKind.wrap_u8]; omega
    have O8 := O7.set (j := j) (y := y) y0 (by omega)
    have gr8 := gr_set' (o := j) (v := .int .u8 y) gr7 hgb.1
    obtain ⟨ys, hys, hcs⟩ := O8.front (j := p + 2) (Nat.le_refl _)
    clear s5 s6 s7 O5 O6 g6 gr5 gr6 g7
    go_wp2
    go_ret
    exact ⟨⟨_, _, _, rfl, by omega, hcp, ys, hys, hcs⟩, hfin _ gr8⟩
  · go_wp2_with fail
    refine (next_any ((p : Int) + 2) w.heap.size a n cap _ zs _ s5 hb hn (by omega) (by omega) (by omega)).mono ?_
    rintro e w6 ⟨⟨j, j0, j1, rfl⟩, s6, g6⟩
    obtain ⟨j, rfl⟩ := Int.eq_ofNat_of_zero_le j0
    have O6 := O5.grown g6 (by omega)
    have gr6 := gr_trans gr5 g6
    obtain ⟨ys, hys, hcs⟩ := O6.front (j := j) (by omega)
    have i1 : (j : Int) ≤ (c4 : Int) := by omega
    have i2 : j ≤ c4 := by omega
    clear s5 s6 O5 O6 g6 gr5
    go_wp2
    go_ret
    exact ⟨⟨_, _, _, rfl, by omega, i2, ys, hys, hcs⟩, hfin _ gr6⟩
  · go_wp2_with fail
    refine (next_any (p : Int) w.heap.size a n cap _ zs _ s5 hb hn (by omega) (by omega) (by omega)).mono ?_
    rintro e w6 ⟨⟨j, j0, j1, rfl⟩, s6, g6⟩
    obtain ⟨j, rfl⟩ := Int.eq_ofNat_of_zero_le j0
    have O6 := O5.grown g6 (by omega)
    have gr6 := gr_trans gr5 g6
    go_wp2_with fail
    refine (next_any 4 w.heap.size a n cap _ zs _ s6 hb hn (by omega) (by omega) (by omega)).mono ?_
    rintro e w7 ⟨⟨y, y0, y1, rfl⟩, s7, g7⟩
    have O7 := O6.grown g7 (by omega)
    have gr7 := gr_trans gr6 g7
    have z7 := gr7.size
    obtain ⟨⟨u, hc⟩, hfz⟩ := O7.facts (j := j) (by omega)
    have hw : IntKind.u8.wrap y = y := by simp [IntKind.wrap_u8]; omega
    have O8 := O7.set (j := j) (y := y) y0 (by omega)
    have gr8 := gr_set' (o := j) (v := .int .u8 y) gr7 hgb.1
    have i1 : (p : Int) ≤ (c4 : Int) := by omega
    have i2 : p ≤ c4 := by omega
    clear s5 s6 s7 O5 O6 g6 gr5 gr6 g7
    go_wp2_with fail
    obtain ⟨ys, hys, hcs⟩ := O8.front (j := p) (by omega)
    refine (specSum_any _ p _ ys _ hcs (isB_of hys) (by omega)).mono ?_
    rintro e w9 ⟨rfl, rfl⟩
    obtain ⟨t0, t1⟩ := Ch.sumB_bd ys
    generalize Ch.sumB ys = t at *
    clear O7 gr7 hc hfz hw hcs hys
    generalize w7.setCell _ _ = w8 at *
    obtain ⟨⟨q0, hc0⟩, hf0⟩ := O8.facts (j := p) (by omega)
    obtain ⟨⟨q1, hc1⟩, hf1⟩ := O8.facts (j := p + 1) (by omega)
    have hw0 : IntKind.u8.wrap (t / 256) = t / 256 := by simp [IntKind.wrap_u8]; omega
    have hw1 : IntKind.u8.wrap (t % 256) = t % 256 := by simp [IntKind.wrap_u8]
    have O9 := (O8.set (j := p) (y := t / 256) (by omega) (by omega)).set (j := p + 1) (y := t % 256) (by omega) (by omega)
    have gr9 := gr_set' (o := p + 1) (v := .int .u8 (t % 256)) (gr_set' (o := p) (v := .int .u8 (t / 256)) gr8 hgb.1) hgb.1
    obtain ⟨ys, hys, hcs⟩ := O9.front (j := p + 2) (Nat.le_refl _)
    go_wp2
    go_ret
    exact ⟨⟨_, _, _, rfl, by omega, hcp, ys, hys, hcs⟩, hfin _ gr9⟩
  · have u0 : (v == 0) = false := by rw [beq_eq_false_iff_ne]; omega
    have u1 : (v == 1) = false := by rw [beq_eq_false_iff_ne]; omega
    have u2 : (v == 2) = false := by rw [beq_eq_false_iff_ne]; omega
    obtain ⟨ys, hys, hcs⟩ := O5.front (j := p + 2) (Nat.le_refl _)
    clear s5
    go_wp2
    go_ret
    exact ⟨⟨_, _, _, rfl, by omega, hcp, ys, hys, hcs⟩, hfin _ gr5⟩
end Go.Proofs.Ythkbaabfhbjbgaa
