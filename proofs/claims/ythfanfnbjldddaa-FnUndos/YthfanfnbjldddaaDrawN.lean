
/- The draw of right leaves. -/
import Derived.Test.YthfanfnbjldddaaDrawM
import Derived.Test.YthfanfnbjldddaaPutE
namespace Go.Proofs.Ythfanfnbjldddaa
open Go.RowKit

theorem OwnLv.grown {w w' : World} {B s n : Nat} {v : Value} {ls : List (List Ch.Row)} (h : OwnLv w B v n ls) (hg : w.grownBy w' (some s)) (hs : s < B) : OwnLv w' B v n ls := by
  obtain ⟨hl, vs, ho, hi, hd, hd'⟩ := h
  refine ⟨hl, vs, owns_grown ho hg (fun g hg' e => by have := (owns_lt ho g hg').1; simp at e; omega), fun i hlt => ?_, hd, hd'⟩
  obtain ⟨x, h1, h2⟩ := hi i hlt
  exact ⟨x, h1, owns_grown h2 hg (fun g hg' e => by have := (owns_lt h2 g hg').1; simp at e; omega)⟩
theorem Ch.good_sizeD {ls : List (List Ch.Row)} (h : Ch.leavesFault ls = 0) : Ch.lvSize ls ≤ 1048576 := by
  have hg := (Ch.good_iff ls).1 h
  have := Ch.sum_le ls 4 (fun x hx => (hg.2.1 x hx).2)
  unfold Ch.lvSize
  omega
theorem Ch.put_len1 (ls : List (List Ch.Row)) (r : Ch.Row) : (Ch.put ls r).length ≤ ls.length + 1 := by
  unfold Ch.put
  split
  · simp
  · have hp := Ch.forAt_lt (ls := ls) (key := r.k) (k := ls.length) (by omega)
    have := Ch.halves_len (Ch.into r (ls.getD (Ch.forAt ls r.k ls.length) []))
    simp only [List.length_append, List.length_take, List.length_drop]
    omega
theorem Ch.drop_len (ls : List (List Ch.Row)) (key : Int) : (Ch.drop ls key).length ≤ ls.length := by
  have h1 := List.length_filter_le Ch.full (ls.map (List.filter (Ch.notK key)))
  rw [List.length_map] at h1
  exact h1

/-- Some right leaves were drawn. -/
def LvPost (q d s : Nat) (a : Option Addr) (n cap k : Nat) (zs : List Int) (w : World) (e : Ending) (w' : World) : Prop :=
  ∃ ls a' m c' k', Ch.leavesFault ls = 0 ∧ ls.length ≤ q ∧ e = .returned (.slice a' m c') ∧ OwnLv w' w.heap.size (.slice a' m c') m ls ∧ k' ≤ k + d ∧ Src w' s a n cap k' zs ∧ w.grownBy w' (some s)

set_option maxHeartbeats 4000000 in
theorem l3Right_any (s : Nat) (a : Option Addr) (n cap k : Nat) (zs : List Int) (w : World) (h : Src w s a n cap k zs) (hb : IsB zs) (hn : n ≤ 1048580) (hk : k ≤ 700) :
    Calls Try.prog 127 #[.pointer (some ⟨s, 0, none⟩)] w (LvPost 20 120 s a n cap k zs w) := by
  have hsl := h.lt
  have o0 := empty_leaves w w.heap.size (Nat.le_refl _)
  have O0 : OwnLv (w.alloc (.cells #[] 107)) w.heap.size (.slice (some ⟨w.heap.size, 0, none⟩) 0 0) 0 [] := ⟨rfl, [], o0, fun i hi => absurd hi (by omega), fun i j x y g _ hx => by simp at hx, fun i x g hx => by simp at hx⟩
  clear o0
  go_enter Try.func127, Try.ntmps127
  go_wp2_with fail
  refine (next_any 20 s a n cap k zs _ h.new hb hn (by omega) (by omega) (by omega)).mono ?_
  rintro e w1 ⟨⟨x, x0, x1, rfl⟩, s1, g1⟩
  have O1 := O0.grown g1 hsl
  have G1 := gr_alloc g1
  obtain ⟨j0, rfl⟩ : ∃ j0 : Nat, x = (j0 : Int) := ⟨x.toNat, by omega⟩
  clear O0 g1
  go_wp2
  go_loopw [3, 4] (fun q i wr => ∃ (j m : Nat) (a' : Option Addr) (c' k' : Nat) (ls : List (List Ch.Row)), j ≤ 19 ∧ i = .int .i64 j ∧ q = .slice a' m c' ∧ OwnLv wr w.heap.size (.slice a' m c') m ls ∧ Hid (Ch.leavesFault ls = 0) ∧ ls.length + j ≤ 20 ∧ k' + 5 * j ≤ k + 100 ∧ Src wr s a n cap k' zs ∧ w.grownBy wr (some s)) (fun _ i _ => (intOf i).toNat)
  case atStart => exact ⟨j0, 0, _, _, k + 1, [], by omega, rfl, rfl, O1, (by decide : Ch.leavesFault [] = 0), by simp; omega, by omega, s1, G1⟩
  case round =>
    clear O1 s1 G1
    obtain ⟨j, m, a', c', k', ls, hj, rfl, rfl, own, HG, hlen, hkk, sr, G⟩ := hrel
    have hzw := G.size
    by_cases hlt : 0 < j
    · have hji : (j : Int) > 0 := by omega
      go_wp2_with fail
      refine (l1Row_any s a n cap k' zs _ sr hb hn (by omega)).mono ?_
      rintro e w2 ⟨⟨rk, rv, rg⟩, k2, hrf, _, _, rfl, hk2, s2, g2⟩
      have own2 := own.grown g2 hsl
      have G2 := gr_trans G g2
      have hz2 := G2.size
      have HP := hid (Ch.put_good HG.out hrf (by have := Ch.put_len1 ls ⟨rk, rv, rg⟩; omega))
      have HPl := hid (Ch.put_len1 ls ⟨rk, rv, rg⟩)
      clear own sr g2 hrf
      go_wp2_with fail
      refine (specPut_any a' m c' ls rk rv rg _ (own2.at (small_at (Ch.good_sizeD HG.out))) (Ch.good_sizeD HG.out) HG.out).mono ?_
      rintro e w3 ⟨a3, m3, c3, rfl, own3, b3⟩
      have own3 := own3.base (B' := w.heap.size) (by omega)
      have s3 := s2.below (B := w2.heap.size) b3 s2.lt
      have G3 := gr_on G2 (b3.mono hz2)
      have hz3 := G3.size
      generalize Ch.put ls ⟨rk, rv, rg⟩ = ls3 at *
      clear own2 s2 b3 G2 HG
      go_wp2_with fail
      refine (chance_any 5 s a n cap k2 zs _ s3 hb hn (by omega) (by omega) (by omega)).mono ?_
      rintro e w4 ⟨⟨c, rfl⟩, s4, g4⟩
      have own4 := own3.grown g4 hsl
      have G4 := gr_trans G3 g4
      have hz4 := G4.size
      clear own3 s3 g4 G3
      have HPl' := HPl.out
      cases c with
      | false =>
        go_wp2
        go_roundw
        case rel => exact ⟨j - 1, m3, a3, c3, k2 + 1, ls3, by omega, by first | go_num | (simp; omega), rfl, own4, HP, by omega, by omega, s4, G4⟩
        case measure => simp [intOf]; omega
      | true =>
        go_wp2_with fail
        refine (next_any 20 s a n cap (k2 + 1) zs _ s4 hb hn (by omega) (by omega) (by omega)).mono ?_
        rintro e w5 ⟨⟨y, y0, y1, rfl⟩, s5, g5⟩
        have own5 := own4.grown g5 hsl
        have G5 := gr_trans G4 g5
        have hz5 := G5.size
        have HD := hid (Ch.drop_good HP.out y)
        have HDl := Ch.drop_len ls3 y
        clear own4 s4 g5
        go_wp2_with fail
        refine (specDrop_any a3 m3 c3 y ls3 _ (own5.at (small_at (Ch.good_sizeD HP.out))) (Ch.good_sizeD HP.out)).mono ?_
        rintro e w6 ⟨a6, m6, c6, rfl, own6, b6⟩
        have own6 := own6.base (B' := w.heap.size) (by omega)
        have s6 := s5.below (B := w5.heap.size) b6 s5.lt
        have G6 := gr_on G5 (b6.mono hz5)
        generalize Ch.drop ls3 y = ls6 at *
        go_wp2
        go_roundw
        case rel => exact ⟨j - 1, m6, a6, c6, k2 + 1 + 1, ls6, by omega, by first | go_num | (simp; omega), rfl, own6, HD, by omega, by omega, s6, G6⟩
        case measure => simp [intOf]; omega
    · obtain rfl : j = 0 := by omega
      go_wp2
      go_ret
      exact ⟨ls, a', m, c', k', HG.out, by omega, rfl, own, by omega, sr, G⟩
end Go.Proofs.Ythfanfnbjldddaa
