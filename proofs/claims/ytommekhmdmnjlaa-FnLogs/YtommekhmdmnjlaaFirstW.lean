
/- Walks of the first record of bytes: the program's. -/
import Derived.Test.YtommekhmdmnjlaaEqW
import Derived.Laws.CopyOwn
namespace Go.Proofs.Ytommekhmdmnjlaa
open Go.RowKit

/-- What firstRec answers. -/
def Ch.firstV (zs : List Int) : Ch.Rec × Nat := match Ch.first zs with
  | some r => (r, r.len)
  | none => (Ch.Rec.zero, 0)
theorem Ch.firstV_some {zs : List Int} (h0 : (Ch.unp zs).fault = 0) (h1 : (Ch.unp zs).bytes <+: zs) : Ch.firstV zs = (Ch.unp zs, (Ch.unp zs).len) := by
  unfold Ch.firstV Ch.first
  rw [if_pos ⟨h0, h1⟩]
theorem Ch.firstV_none {zs : List Int} (h : ¬ ((Ch.unp zs).fault = 0 ∧ (Ch.unp zs).bytes <+: zs)) : Ch.firstV zs = (Ch.Rec.zero, 0) := by
  unfold Ch.firstV Ch.first
  rw [if_neg h]

/-- Nine bytes, padded. -/
def Ch.nine (zs : List Int) : List Int := [zs.getD 0 0, zs.getD 1 0, zs.getD 2 0, zs.getD 3 0, zs.getD 4 0, zs.getD 5 0, zs.getD 6 0, zs.getD 7 0, zs.getD 8 0]
theorem Ch.unp_nine (zs : List Int) : Ch.unp (Ch.nine zs) = Ch.unp zs := rfl

theorem pad9 (zs : List Int) : splice [Value.int .u8 0, Value.int .u8 0, Value.int .u8 0, Value.int .u8 0, Value.int .u8 0, Value.int .u8 0, Value.int .u8 0, Value.int .u8 0, Value.int .u8 0] 0 (bts (zs.take 9)) = bts (Ch.nine zs) := by
  match zs with
  | [] => rfl
  | [_] => rfl
  | [_, _] => rfl
  | [_, _, _] => rfl
  | [_, _, _, _] => rfl
  | [_, _, _, _, _] => rfl
  | [_, _, _, _, _, _] => rfl
  | [_, _, _, _, _, _, _] => rfl
  | [_, _, _, _, _, _, _, _] => rfl
  | _ :: _ :: _ :: _ :: _ :: _ :: _ :: _ :: _ :: _ => simp [splice, bts, Ch.nine]

theorem cells_src {w : World} {a : Option Addr} {n : Nat} {zs : List Int} (h : CellsAt w a n (bts zs)) (k : Nat) : 0 < (bts (zs.take k)).length → ∃ ad, a = some ad ∧ ∀ j v, (bts (zs.take k))[j]? = some v → w.cell? (ad.add j) = some v := by
  intro h0
  have hl := h.len.out
  obtain ⟨b, off, ha, hc⟩ := h.2 (by simp [bts] at h0; omega)
  refine ⟨_, ha, fun j v hj => ?_⟩
  have hjl : j < (bts (zs.take k)).length := (List.getElem?_eq_some_iff.1 hj).1
  simp [bts] at hjl
  have e : (⟨b, off, none⟩ : Addr).add j = ⟨b, off + j, none⟩ := by
    unfold Addr.add
    split
    · next h0 => subst h0; rfl
    · rfl
  rw [e, hc j (by omega), ← hj]
  simp [bts, show j < k by omega]

theorem Try.size5 : (Try.prog.info? 5).map (·.size) = some 1 := by kernel_rfl

/-- The copy of bytes into an array of nine. -/
theorem copy9 (w : World) (a : Option Addr) (n cap : Nat) (zs : List Int) (h : CellsAt w a n (bts zs)) :
    ∃ c w', (Builtin.copy_ #[22, 22] 3 #[.slice (some ⟨w.heap.size, 0, none⟩) 9 9, .slice a n cap]).run Try.prog (w.alloc (.cells #[.int .u8 0, .int .u8 0, .int .u8 0, .int .u8 0, .int .u8 0, .int .u8 0, .int .u8 0, .int .u8 0, .int .u8 0] 100)) = .ok c w' ∧
      w'.heap[w.heap.size]? = some (.cells (bts (Ch.nine zs)).toArray 100 (0, 0)) ∧ Below w.heap.size w w' ∧ w'.heap.size = w.heap.size + 1 := by
  have hl := h.len.out
  have hB : Below w.heap.size w (w.alloc (.cells #[.int .u8 0, .int .u8 0, .int .u8 0, .int .u8 0, .int .u8 0, .int .u8 0, .int .u8 0, .int .u8 0, .int .u8 0] 100)) := (Below.refl _ _).alloc (Nat.le_refl _) _
  have hg : (w.alloc (.cells #[.int .u8 0, .int .u8 0, .int .u8 0, .int .u8 0, .int .u8 0, .int .u8 0, .int .u8 0, .int .u8 0, .int .u8 0] 100)).heap[w.heap.size]? = some (.cells #[.int .u8 0, .int .u8 0, .int .u8 0, .int .u8 0, .int .u8 0, .int .u8 0, .int .u8 0, .int .u8 0, .int .u8 0] 100 (0, 0)) := heap_new' rfl
  have hp := pad9 zs
  by_cases h0 : n = 0
  · obtain rfl : zs = [] := List.eq_nil_of_length_eq_zero (by omega)
    refine ⟨_, _, run_copy_none (P := Try.prog) _ 22 22 3 5 _ _ 9 9 n cap Try.underlying22 Try.size5 (by subst h0; rfl), hg, hB, by simp⟩
  · have hcl : 0 < (bts (zs.take 9)).length := by simp [bts]; omega
    obtain ⟨ad, rfl, hsrc⟩ := cells_src (h.below hB) 9 hcl
    refine ⟨_, _, run_copy_row (P := Try.prog) _ 22 22 3 5 w.heap.size 0 9 9 ad n cap #[.int .u8 0, .int .u8 0, .int .u8 0, .int .u8 0, .int .u8 0, .int .u8 0, .int .u8 0, .int .u8 0, .int .u8 0] 100 (bts (zs.take 9)) Try.underlying22 Try.size5 hg ?_ hsrc ?_ ?_, ?_, below_setRow hB (Nat.le_refl _) _, by simp [World.setRow]⟩
    · have e : (bts (zs.take 9)).length = min 9 zs.length := by simp [bts]
      rw [e, hl]
      show min 9 zs.length = min zs.length 9
      omega
    · simp [bts]; omega
    · intro v hv
      obtain ⟨z, _, rfl⟩ := List.mem_map.1 hv
      rfl
    · rw [← hp]
      simpa [splice] using setRow_heap _ w.heap.size _ _ _ _ hg

theorem nine_B {zs : List Int} (h : IsB zs) (i : Nat) : 0 ≤ zs.getD i 0 ∧ zs.getD i 0 ≤ 255 := h i

set_option linter.unusedSimpArgs false in
set_option maxRecDepth 10000 in
set_option maxHeartbeats 8000000 in
theorem firstRec_any (a : Option Addr) (n cap : Nat) (zs : List Int) (w : World) (h : CellsAt w a n (bts zs)) (hb : IsB zs) (hn : n ≤ 1048576) (hcap : n ≤ cap) :
    Calls Try.prog 60 #[.slice a n cap] w fun e w' => e = .returned (.tuple #[recV (Ch.firstV zs).1, .int .i64 (Ch.firstV zs).2]) ∧ Below w.heap.size w w' := by
  have HL := h.len
  have b0 : Below w.heap.size w (w.alloc (.cells #[.int .i64 0, .int .i64 0, .int .i64 0, .bool false, .int .i64 0, .bool false, .int .i64 0] 38)) := (Below.refl _ _).alloc (Nat.le_refl _) _
  obtain ⟨c1, w1, hrun, HG, b1, z1⟩ := copy9 (w.alloc (.cells #[.int .i64 0, .int .i64 0, .int .i64 0, .bool false, .int .i64 0, .bool false, .int .i64 0] 38)) a n cap zs (h.below b0)
  simp only [World.size_alloc] at hrun HG z1
  have x0 : w1.cell? ⟨w.heap.size + 1, 0, none⟩ = some (.int .u8 (zs.getD 0 0)) := cell_of_row _ _ _ _ _ _ HG
  have x1 : w1.cell? ⟨w.heap.size + 1, 1, none⟩ = some (.int .u8 (zs.getD 1 0)) := cell_of_row _ _ _ _ _ _ HG
  have x2 : w1.cell? ⟨w.heap.size + 1, 2, none⟩ = some (.int .u8 (zs.getD 2 0)) := cell_of_row _ _ _ _ _ _ HG
  have x3 : w1.cell? ⟨w.heap.size + 1, 3, none⟩ = some (.int .u8 (zs.getD 3 0)) := cell_of_row _ _ _ _ _ _ HG
  have x4 : w1.cell? ⟨w.heap.size + 1, 4, none⟩ = some (.int .u8 (zs.getD 4 0)) := cell_of_row _ _ _ _ _ _ HG
  have x5 : w1.cell? ⟨w.heap.size + 1, 5, none⟩ = some (.int .u8 (zs.getD 5 0)) := cell_of_row _ _ _ _ _ _ HG
  have x6 : w1.cell? ⟨w.heap.size + 1, 6, none⟩ = some (.int .u8 (zs.getD 6 0)) := cell_of_row _ _ _ _ _ _ HG
  have x7 : w1.cell? ⟨w.heap.size + 1, 7, none⟩ = some (.int .u8 (zs.getD 7 0)) := cell_of_row _ _ _ _ _ _ HG
  have x8 : w1.cell? ⟨w.heap.size + 1, 8, none⟩ = some (.int .u8 (zs.getD 8 0)) := cell_of_row _ _ _ _ _ _ HG
  have y0 := box_cell b1 0
  have y1 := box_cell b1 1
  have y2 := box_cell b1 2
  have y3 := box_cell b1 3
  have y4 := box_cell b1 4
  have y5 := box_cell b1 5
  have y6 := box_cell b1 6
  simp at y0 y1 y2 y3 y4 y5 y6
  clear HG b0 y0 y1 y2 y3 y4 y5 y6
  obtain ⟨p0, q0⟩ := hb 0
  obtain ⟨p1, q1⟩ := hb 1
  obtain ⟨p2, q2⟩ := hb 2
  obtain ⟨p3, q3⟩ := hb 3
  obtain ⟨p4, q4⟩ := hb 4
  obtain ⟨p5, q5⟩ := hb 5
  obtain ⟨p6, q6⟩ := hb 6
  obtain ⟨p7, q7⟩ := hb 7
  obtain ⟨p8, q8⟩ := hb 8
  have HU : Hid (Ch.unp [zs.getD 0 0, zs.getD 1 0, zs.getD 2 0, zs.getD 3 0, zs.getD 4 0, zs.getD 5 0, zs.getD 6 0, zs.getD 7 0, zs.getD 8 0] = Ch.unp zs) := Ch.unp_nine zs
  generalize zs.getD 0 0 = d0 at *
  generalize zs.getD 1 0 = d1 at *
  generalize zs.getD 2 0 = d2 at *
  generalize zs.getD 3 0 = d3 at *
  generalize zs.getD 4 0 = d4 at *
  generalize zs.getD 5 0 = d5 at *
  generalize zs.getD 6 0 = d6 at *
  generalize zs.getD 7 0 = d7 at *
  generalize zs.getD 8 0 = d8 at *
  go_enter Try.func60, Try.ntmps60
  go_wp2_with fail
  refine (unpack_any d0 d1 d2 d3 d4 d5 d6 d7 d8 _ p0 q0 p1 q1 p2 q2 p3 q3 p4 q4 p5 q5 p6 q6 p7 q7 p8 q8).mono ?_
  rw [HU.out]
  rintro e w2 ⟨rfl, b2⟩
  have bA := b1.trans (b2.mono b1.size)
  have z2 := b2.size
  clear x0 x1 x2 x3 x4 x5 x6 x7 x8 p0 q0 p1 q1 p2 q2 p3 q3 p4 q4 p5 q5 p6 q6 p7 q7 p8 q8 hrun b1 b2 HU
  obtain ⟨r, hr⟩ : ∃ r, r = Ch.unp zs := ⟨_, rfl⟩
  rw [← hr]
  obtain ⟨kd, tx, ky, hd, ol, hs, nw⟩ := r
  have HR : Hid (⟨kd, tx, ky, hd, ol, hs, nw⟩ = Ch.unp zs) := hr
  clear hr
  simp only [recV]
  by_cases hf : Ch.Rec.fault ⟨kd, tx, ky, hd, ol, hs, nw⟩ = 0
  · have hlen := Ch.Rec.len_bd ⟨kd, tx, ky, hd, ol, hs, nw⟩
    have hby := isB_of (Ch.Rec.all_bytes (Ch.Rec.fit hf))
    go_wp2_with fail
    refine (implPackRec_ok kd tx ky hd ol hs nw _ hf).mono ?_
    rintro e w3 ⟨g, cp, rfl, own, b3⟩
    obtain ⟨r0, r1, r2, r3, r4, r5, r6⟩ := box7 b3
    have b3 := below_box b3
    have bB := bA.trans (b3.mono bA.size)
    have z3 := lt_of_cell r0
    have h3 := h.below ((below_box bB))
    have hpf := hasPrefix_any a (some ⟨g, 0, none⟩) n (Ch.Rec.len ⟨kd, tx, ky, hd, ol, hs, nw⟩) cap cp zs (Ch.Rec.bytes ⟨kd, tx, ky, hd, ol, hs, nw⟩) (w3.alloc (.cells #[.int .i64 0, .slice (some ⟨g, 0, none⟩) (Ch.Rec.len ⟨kd, tx, ky, hd, ol, hs, nw⟩) cp] 69)) (h3.below ((Below.refl _ _).alloc (Nat.le_refl _) _)) (by simpa using owns_cells (own.alloc _)) hb hby (by omega) (by omega) (by omega) hcap
    obtain ⟨y0, y1, y2, y3, y4, y5, y6⟩ := box7 bB
    have f0 := bB.frozen (p := ⟨w.heap.size, 0, none⟩) (by simp)
    have f1 := bB.frozen (p := ⟨w.heap.size, 1, none⟩) (by simp)
    have f2 := bB.frozen (p := ⟨w.heap.size, 2, none⟩) (by simp)
    have f3 := bB.frozen (p := ⟨w.heap.size, 3, none⟩) (by simp)
    have f4 := bB.frozen (p := ⟨w.heap.size, 4, none⟩) (by simp)
    have f5 := bB.frozen (p := ⟨w.heap.size, 5, none⟩) (by simp)
    have f6 := bB.frozen (p := ⟨w.heap.size, 6, none⟩) (by simp)
    simp [go_sem] at f0 f1 f2 f3 f4 f5 f6
    have zA := lt_of_cell y0
    have bE := below_box bB
    clear bA b3 own h3 bB hby h
    by_cases hp : Ch.Rec.bytes ⟨kd, tx, ky, hd, ol, hs, nw⟩ <+: zs
    · have HV : Hid (Ch.firstV zs = (⟨kd, tx, ky, hd, ol, hs, nw⟩, Ch.Rec.len ⟨kd, tx, ky, hd, ol, hs, nw⟩)) := by
        have e := HR.out
        have := Ch.firstV_some (zs := zs) (by rw [← e]; exact hf) (by rw [← e]; exact hp)
        rw [← e] at this
        exact this
      rw [decide_eq_true hp] at hpf
      clear hp HR hf
      generalize Ch.Rec.len ⟨kd, tx, ky, hd, ol, hs, nw⟩ = len at *
      generalize Ch.Rec.bytes ⟨kd, tx, ky, hd, ol, hs, nw⟩ = bys at *
      go_wp2_with (go_at_call 74; refine hpf.mono ?_; clear hpf; rintro e w4 ⟨rfl, hw4⟩; subst w4)
      go_region
      all_goals
        go_wp2_with fail
        rw [HV.out]
        refine bodyPost_ret (v := .tuple #[.agg #[.int .i64 kd, .int .i64 tx, .int .i64 ky, .bool hd, .int .i64 ol, .bool hs, .int .i64 nw], .int .i64 len]) (by simp [results, Try.results60, go_sem, zA, y0, y1, y2, y3, y4, y5, y6]) rfl ⟨rfl, ?_⟩
        repeat (first | with_reducible exact bE | with_reducible refine Below.drew ?_ | with_reducible refine Below.alloc ?_ (by first | omega | (simp; done) | (simp; omega)) _ | with_reducible refine Below.setCell ?_ (by simp) _)
    · have HV : Hid (Ch.firstV zs = (Ch.Rec.zero, 0)) := by
        have e := HR.out
        exact Ch.firstV_none (zs := zs) (by rw [← e]; exact fun hh => hp hh.2)
      rw [decide_eq_false hp] at hpf
      clear hp HR hf
      generalize Ch.Rec.len ⟨kd, tx, ky, hd, ol, hs, nw⟩ = len at *
      generalize Ch.Rec.bytes ⟨kd, tx, ky, hd, ol, hs, nw⟩ = bys at *
      go_wp2_with (go_at_call 74; refine hpf.mono ?_; clear hpf; rintro e w4 ⟨rfl, hw4⟩; subst w4)
      rw [HV.out]
      refine bodyPost_ret (v := .tuple #[.agg #[.int .i64 0, .int .i64 0, .int .i64 0, .bool false, .int .i64 0, .bool false, .int .i64 0], .int .i64 0]) (by simp [results, Try.results60, go_sem, zA, y0, y1, y2, y3, y4, y5, y6]) rfl ⟨rfl, ?_⟩
      repeat (first | with_reducible exact bE | with_reducible refine Below.drew ?_ | with_reducible refine Below.alloc ?_ (by first | omega | (simp; done) | (simp; omega)) _ | with_reducible refine Below.setCell ?_ (by simp) _)
  · have HV : Hid (Ch.firstV zs = (Ch.Rec.zero, 0)) := by
      have e := HR.out
      exact Ch.firstV_none (zs := zs) (by rw [← e]; exact fun hh => hf hh.1)
    have hc : (Ch.Rec.fault ⟨kd, tx, ky, hd, ol, hs, nw⟩ != 0) = true := by simpa using hf
    go_wp2_with fail
    refine (implPackRec_no kd tx ky hd ol hs nw _ _ rfl hc).mono ?_
    generalize Ch.Rec.fault ⟨kd, tx, ky, hd, ol, hs, nw⟩ = fc at *
    rintro e w3 ⟨rfl, b3⟩
    have b3 := below_box b3
    have bB := bA.trans (b3.mono bA.size)
    obtain ⟨y0, y1, y2, y3, y4, y5, y6⟩ := box7 bB
    have f0 := bB.frozen (p := ⟨w.heap.size, 0, none⟩) (by simp)
    have f1 := bB.frozen (p := ⟨w.heap.size, 1, none⟩) (by simp)
    have f2 := bB.frozen (p := ⟨w.heap.size, 2, none⟩) (by simp)
    have f3 := bB.frozen (p := ⟨w.heap.size, 3, none⟩) (by simp)
    have f4 := bB.frozen (p := ⟨w.heap.size, 4, none⟩) (by simp)
    have f5 := bB.frozen (p := ⟨w.heap.size, 5, none⟩) (by simp)
    have f6 := bB.frozen (p := ⟨w.heap.size, 6, none⟩) (by simp)
    simp [go_sem] at f0 f1 f2 f3 f4 f5 f6
    have zA := lt_of_cell y0
    have bE := below_box bB
    clear bA b3 bB h hf HR
    go_wp2_with fail
    rw [HV.out]
    refine bodyPost_ret (v := .tuple #[.agg #[.int .i64 0, .int .i64 0, .int .i64 0, .bool false, .int .i64 0, .bool false, .int .i64 0], .int .i64 0]) (by simp [results, Try.results60, go_sem, zA, y0, y1, y2, y3, y4, y5, y6]) rfl ⟨rfl, ?_⟩
    repeat (first | with_reducible exact bE | with_reducible refine Below.drew ?_ | with_reducible refine Below.alloc ?_ (by first | omega | (simp; done) | (simp; omega)) _ | with_reducible refine Below.setCell ?_ (by simp) _)
end Go.Proofs.Ytommekhmdmnjlaa
