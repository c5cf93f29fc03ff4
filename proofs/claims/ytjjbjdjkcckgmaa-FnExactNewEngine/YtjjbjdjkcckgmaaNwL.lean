
/- The law FnExactNewEngine. -/
import Derived.Test.YtjjbjdjkcckgmaaNwS
namespace Go.Proofs.Ytjjbjdjkcckgmaa
open Go.RowKit

theorem Ch.newR_size (rs : List Ch.Row) : Ch.lvSize (Ch.newR rs).2.2 ≤ 1048576 := by
  unfold Ch.newR
  by_cases h0 : (Ch.baseF rs != 0) = true
  · rw [if_pos h0]; simp [Ch.lvSize]
  · rw [if_neg h0]
    have hz : Ch.baseF rs = 0 := by simpa using h0
    by_cases h1 : Ch.roomB rs rs.length = true
    · rw [if_pos h1]
      have := Ch.good_size (Ch.putN_good hz rs.length (Nat.le_refl _) ((Ch.roomB_iff _ _).1 h1))
      show Ch.lvSize (Ch.putN rs rs.length) ≤ 1048576
      omega
    · rw [if_neg h1]; simp [Ch.lvSize]
theorem within_block {lo hi : Nat} {a b : World} (h : Within lo hi a b) {k : Nat} {o : Obj} (hk : a.heap[k]? = some o) (hne : k < lo ∨ hi ≤ k) : b.heap[k]? = some o :=
  (h.block k (Array.getElem?_eq_some_iff.1 hk).1 hne).trans hk
theorem OwnV.atM {w : World} {B : Nat} {a : Option Addr} {n cap : Nat} {vs : List Value} {ls : List (List Ch.Row)} {s : Int} (h : OwnV w B (.slice a n cap) n vs (lvMarksS s ls)) (hs : Ch.lvSize ls ≤ 1048576) : LvAt w a n (lvMarksS s ls) :=
  h.own.at (fun i => by
    by_cases hi : i < ls.length
    · rw [lvMarks_atS s ls i hi, lvMark_lenS s ls i]
      have := Ch.lv_leaf hs i
      omega
    · have : (lvMarksS s ls).getD i [] = [] := by
        unfold List.getD
        rw [List.getElem?_eq_none (by rw [lvMarks_lenS]; omega)]
        rfl
      rw [this]
      simp)
theorem OwnV.atV {w : World} {B : Nat} {a : Option Addr} {n cap : Nat} {vs : List Value} {ls : List (List Ch.Row)} (h : OwnV w B (.slice a n cap) n vs ls) (hs : Ch.lvSize ls ≤ 1048576) : LvAt w a n ls :=
  h.own.at (fun i => by have := Ch.lv_leaf hs i; omega)

set_option linter.unusedSimpArgs false in
set_option maxRecDepth 20000 in
set_option maxHeartbeats 8000000 in
theorem lawNew_any (a : Option Addr) (n cap : Nat) (rs : List Ch.Row) (w : World) (h : CellsAt w a (n * 3) (rcells rs)) (hm : n ≤ 9223372036854775807) :
    Calls Try.prog 3 #[.slice a n cap] w fun e w' => e = .returned (.bool true) ∧ Below w.heap.size w w' := by
  have SZ := fun W => sz_from a n cap 1048576 W (by omega) hm
  by_cases hbig : 1048576 < n
  · rw [if_neg (by omega)] at SZ
    go_enter Try.func3, Try.ntmps3
    go_wp2_with fail
    refine (SZ _).mono ?_
    rintro e w1 ⟨rfl, rfl⟩
    go_wp2
    go_ret
    exact ⟨rfl, Below.refl _ _⟩
  have hs : n ≤ 1048576 := by omega
  rw [if_pos hs] at SZ
  have hl0 : ¬ ((1048576 : Nat) : Int) - (n : Int) < 0 := by omega
  generalize ((1048576 : Nat) : Int) - (n : Int) = L at *
  clear hbig
  have SI := fun (W : World) (ad : Addr) (hW : CellsAt W (some ad) (n * 3) (rcells rs)) => specNew_any ad n n rs W hW hs
  have II := fun (W : World) (ad : Addr) (hW : CellsAt W (some ad) (n * 3) (rcells rs)) => implNew_any ad n n rs W hW hs
  unfold NewS at SI
  unfold NewE at II
  have hlv := Ch.newR_size rs
  generalize (Ch.newR rs).1 = c at SI II
  generalize (Ch.newR rs).2.1 = bs at SI II
  generalize (Ch.newR rs).2.2 = lv at SI II hlv
  go_enter Try.func3, Try.ntmps3
  go_wp2_with fail
  refine (SZ _).mono ?_
  rintro e w0 ⟨rfl, hw0⟩
  obtain rfl := hw0.symm
  clear hw0 SZ
  go_wp2_with fail
  refine (toRowS_any a n cap rs _ h hs).mono ?_
  rintro e w1 ⟨rfl, o1, b1⟩
  go_wp2_with fail
  refine (SI _ _ (owns_cells o1)).mono ?_
  rintro e w2 ⟨a2, n2, c2, l2, m2, d2, rfl, hn2, cB, cL, b2⟩
  have hb := b1.trans (b2.mono b1.size)
  have hw2 := hb.size
  clear o1 b1 b2 SI
  have HN2 := cB.rlen
  have HM2 := cL.len
  have kP : Below w2.heap.size w2 (w2.alloc (.cells #[.int .i64 c, .bool false, .int .i64 0, .slice none 0 0, .slice none 0 0, (.slice a2 n2 c2), (.slice l2 m2 d2), .slice none 0 0, .slice none 0 0, .slice none 0 0, .slice none 0 0, .slice none 0 0, .bool false, .slice none 0 0, .slice none 0 0] 37)) := (Below.refl _ _).alloc (Nat.le_refl _) _
  have hP := heap_alloc_new w2 (.cells #[.int .i64 c, .bool false, .int .i64 0, .slice none 0 0, .slice none 0 0, (.slice a2 n2 c2), (.slice l2 m2 d2), .slice none 0 0, .slice none 0 0, .slice none 0 0, .slice none 0 0, .slice none 0 0, .bool false, .slice none 0 0, .slice none 0 0] 37)
  replace hb := hb.trans (kP.mono hb.size)
  go_wp2_with fail
  refine (toRowS_at (w2.heap.size + 1) a n cap rs _ (by simp) (h.below hb) hs).mono ?_
  rintro e w3 ⟨rfl, oX, b3⟩
  have Bs := kP.trans (b3.mono (by simp))
  replace hb := hb.trans (b3.mono hb.size)
  replace hP := block_below b3 hP
  have z3 := (owns_lt oX _ rfl).2
  clear kP b3
  go_wp2_with fail
  refine (II _ _ (owns_cells oX)).mono ?_
  rintro e w4 ⟨a4, n4, c4, l4, m4, d4, vs, H1, rfl, hn4, hH0, hH1, oB, V, hlist, hleaf, b4⟩
  obtain rfl : n2 = n4 := HN2.out.trans (owns_cells oB).rlen.out.symm
  obtain rfl : m2 = m4 := HM2.out.trans V.1
  replace hb := hb.trans (b4.mono hb.size)
  replace Bs := Bs.trans (b4.mono Bs.size)
  replace hP := block_below b4 hP
  replace oX := owns_below oX b4
  have hbase : ∀ g, (Value.slice a4 n2 c4).ownBlock = some g → H1 ≤ g ∧ g < w4.heap.size := fun g hg => owns_lt oB g hg
  have kQ : Below w4.heap.size w4 (w4.alloc (.cells #[.int .i64 c, .bool false, .int .i64 0, .slice none 0 0, .slice none 0 0, (.slice a4 n2 c4), (.slice l4 m2 d4), .slice none 0 0, .slice none 0 0, .slice none 0 0, .slice none 0 0, .slice none 0 0, .bool false, .slice none 0 0, .slice none 0 0] 37)) := (Below.refl _ _).alloc (Nat.le_refl _) _
  have hQ := heap_alloc_new w4 (.cells #[.int .i64 c, .bool false, .int .i64 0, .slice none 0 0, .slice none 0 0, (.slice a4 n2 c4), (.slice l4 m2 d4), .slice none 0 0, .slice none 0 0, .slice none 0 0, .slice none 0 0, .slice none 0 0, .bool false, .slice none 0 0, .slice none 0 0] 37)
  replace hb := hb.trans (kQ.mono hb.size)
  replace Bs := Bs.trans (kQ.mono Bs.size)
  replace hP := block_below kQ hP
  replace oX := owns_below oX kQ
  replace oB := owns_below oB kQ
  replace V := V.below kQ
  have zP := (Array.getElem?_eq_some_iff.1 hP).1
  clear b4 kQ HN2 HM2
  obtain ⟨p0, p1, p2, p3, p4, p5, p6, p7, p8, p9, p10, p11, p12, p13, p14, pz⟩ := row15 hP
  obtain ⟨q0, q1, q2, q3, q4, q5, q6, q7, q8, q9, q10, q11, q12, q13, q14, qz⟩ := row15 hQ
  have E1 := eqEngineResult_same c a4 a2 l4 l2 n2 m2 c4 c2 d4 d2 bs lv (w4.alloc (.cells #[.int .i64 c, .bool false, .int .i64 0, .slice none 0 0, .slice none 0 0, (.slice a4 n2 c4), (.slice l4 m2 d4), .slice none 0 0, .slice none 0 0, .slice none 0 0, .slice none 0 0, .slice none 0 0, .bool false, .slice none 0 0, .slice none 0 0] 37)) (owns_cells oB) (cB.below Bs) (V.atV hlv) (cL.below Bs) hn2 hlv
  go_wp2_with fail
  refine E1.mono ?_
  rintro e w5 ⟨rfl, b5⟩
  clear p0 p1 p2 p3 p4 p5 p6 p7 p8 p9 p10 p11 p12 p13 p14 pz
  clear q0 q1 q2 q3 q4 q5 q6 q7 q8 q9 q10 q11 q12 q13 q14 qz
  replace hb := hb.trans (b5.mono hb.size)
  replace Bs := Bs.trans (b5.mono Bs.size)
  replace hP := block_below b5 hP
  replace hQ := block_below b5 hQ
  replace oX := owns_below oX b5
  replace oB := owns_below oB b5
  replace V := V.below b5
  clear E1 b5
  as_aux_lemma =>
    go_wp2_with fail
    refine (toRowS_any a n cap rs _ (h.below hb) hs).mono ?_
    rintro e w6 ⟨rfl, o6, b6⟩
    replace hb := hb.trans (b6.mono hb.size)
    replace Bs := Bs.trans (b6.mono Bs.size)
    replace hP := block_below b6 hP
    replace hQ := block_below b6 hQ
    replace oX := owns_below oX b6
    replace oB := owns_below oB b6
    replace V := V.below b6
    clear b6
    go_wp2_with fail
    refine (eqRowS_same _ _ n n n rs _ (owns_cells oX) (owns_cells o6) (by omega)).mono ?_
    rintro e w7 ⟨rfl, b7⟩
    replace hb := hb.trans (b7.mono hb.size)
    replace Bs := Bs.trans (b7.mono Bs.size)
    replace hP := block_below b7 hP
    replace hQ := block_below b7 hQ
    replace oX := owns_below oX b7
    replace oB := owns_below oB b7
    replace V := V.below b7
    clear b7 o6
    go_wp2_with fail
    refine (markRowS_own 1 _ n _ n rs _ (by decide) (by decide) oX (by omega)).mono ?_
    rintro e w8 ⟨rfl, o8, g8⟩
    have zP := (Array.getElem?_eq_some_iff.1 hP).1
    have zQ := (Array.getElem?_eq_some_iff.1 hQ).1
    replace hb := hb.grown g8 hb.size (fun g hg => by simp [Value.ownBlock] at hg; omega)
    replace Bs := Bs.grown g8 Bs.size (fun g hg => by simp [Value.ownBlock] at hg; omega)
    replace hP := block_grown g8 hP (by simp [Value.ownBlock])
    replace hQ := block_grown g8 hQ (by simp [Value.ownBlock]; omega)
    replace oB := owns_grown oB g8 (fun g hg e => by simp [Value.ownBlock] at e; have := (owns_lt oB g hg).1; omega)
    replace V := V.grownN g8 (fun g hg e => by simp [Value.ownBlock] at e; have := (hlist g hg).1; omega) (fun i x g hx hg e => by simp [Value.ownBlock] at e; have := (hleaf i x g hx hg).1; omega)
    clear g8 o8 oX
    have n8 : ¬ ((1 : Int) + 3 * (n : Int)) < 0 := by omega
    obtain ⟨p0, p1, p2, p3, p4, p5, p6, p7, p8, p9, p10, p11, p12, p13, p14, pz⟩ := row15 hP
    obtain ⟨q0, q1, q2, q3, q4, q5, q6, q7, q8, q9, q10, q11, q12, q13, q14, qz⟩ := row15 hQ
    have E2 := eqEngineResult_same c a4 a2 l4 l2 n2 m2 c4 c2 d4 d2 bs lv w8 (owns_cells oB) (cB.below Bs) (V.atV hlv) (cL.below Bs) hn2 hlv
    go_wp2_with fail
    refine E2.mono ?_
    rintro e w9 ⟨rfl, b9⟩
    clear p0 p1 p2 p3 p4 p5 p6 p7 p8 p9 p10 p11 p12 p13 p14 pz
    clear q0 q1 q2 q3 q4 q5 q6 q7 q8 q9 q10 q11 q12 q13 q14 qz
    replace hb := hb.trans (b9.mono hb.size)
    replace Bs := Bs.trans (b9.mono Bs.size)
    replace hP := block_below b9 hP
    replace hQ := block_below b9 hQ
    replace oB := owns_below oB b9
    replace V := V.below b9
    clear E2 b9 n8
    as_aux_lemma =>
      obtain ⟨q0, q1, q2, q3, q4, q5, q6, q7, q8, q9, q10, q11, q12, q13, q14, qz⟩ := row15 hQ
      have zQ := (Array.getElem?_eq_some_iff.1 hQ).1
      have M1 := markEngineResult_any c w3.heap.size H1 w4.heap.size H1 w3.heap.size a4 l4 n2 m2 c4 d4 bs vs lv w9 oB V hn2 hlv hbase hlist hleaf hH0 hH1 (by omega)
      go_wp2_with fail
      refine M1.mono ?_
      rintro e w10 ⟨rfl, oB10, V10, wi⟩
      have zP := (Array.getElem?_eq_some_iff.1 hP).1
      replace hb := hb.trans (wi.toBelow (B := w.heap.size) (by omega) hb.size)
      replace Bs := Bs.trans (wi.toBelow (B := w2.heap.size) (by omega) Bs.size)
      replace hP := within_block wi hP (by omega)
      replace hQ := within_block wi hQ (by omega)
      clear q0 q1 q2 q3 q4 q5 q6 q7 q8 q9 q10 q11 q12 q13 q14 qz
      clear M1 wi oB V
      as_aux_lemma =>
        have n9 : ¬ ((1 : Int) + 3 * (n2 : Int) + 3 * (Ch.before lv m2 : Int)) < 0 := by omega
        have n10 : (((1 : Int) + 3 * (n2 : Int) + 3 * (Ch.before lv m2 : Int)) != 1 + 3 * (n2 : Int) + 3 * (Ch.before lv m2 : Int)) = false := by simp
        generalize hMM : (1 : Int) + 3 * (n2 : Int) + 3 * (Ch.before lv m2 : Int) = M at *
        have HM := hid hMM
        clear hMM
        obtain ⟨q0, q1, q2, q3, q4, q5, q6, q7, q8, q9, q10, q11, q12, q13, q14, qz⟩ := row15 hQ
        have D1 := heldEngineResult_any c a4 l4 n2 m2 c4 d4 lv w10 (owns_cells oB10) (V10.atM hlv) hn2 hlv
        rw [HM.out] at D1
        go_wp2_with fail
        refine D1.mono ?_
        rintro e w11 ⟨rfl, b11⟩
        clear q0 q1 q2 q3 q4 q5 q6 q7 q8 q9 q10 q11 q12 q13 q14 qz
        replace hb := hb.trans (b11.mono hb.size)
        replace Bs := Bs.trans (b11.mono Bs.size)
        replace hP := block_below b11 hP
        replace hQ := block_below b11 hQ
        replace oB10 := owns_below oB10 b11
        replace V10 := V10.below b11
        clear D1 b11
        as_aux_lemma =>
          go_wp2_with fail
          refine (toRowS_any a n cap rs _ (h.below hb) hs).mono ?_
          rintro e w12 ⟨rfl, o12, b12⟩
          replace hb := hb.trans (b12.mono hb.size)
          replace Bs := Bs.trans (b12.mono Bs.size)
          replace hP := block_below b12 hP
          replace hQ := block_below b12 hQ
          replace oB10 := owns_below oB10 b12
          replace V10 := V10.below b12
          clear b12
          go_wp2_with fail
          refine (II _ _ (owns_cells o12)).mono ?_
          rintro e w13 ⟨a9, n9', c9, l9, m9, d9, vs9, H9, rfl, hn9, _, _, oB9, V9, _, _, b13⟩
          obtain rfl : n2 = n9' := (cB.rlen.out).trans (owns_cells oB9).rlen.out.symm
          obtain rfl : m2 = m9 := (cL.len.out).trans V9.1
          replace hb := hb.trans (b13.mono hb.size)
          replace Bs := Bs.trans (b13.mono Bs.size)
          replace hP := block_below b13 hP
          replace hQ := block_below b13 hQ
          replace oB10 := owns_below oB10 b13
          replace V10 := V10.below b13
          have kT : Below w13.heap.size w13 (w13.alloc (.cells #[.int .i64 c, .bool false, .int .i64 0, .slice none 0 0, .slice none 0 0, (.slice a9 n2 c9), (.slice l9 m2 d9), .slice none 0 0, .slice none 0 0, .slice none 0 0, .slice none 0 0, .slice none 0 0, .bool false, .slice none 0 0, .slice none 0 0] 37)) := (Below.refl _ _).alloc (Nat.le_refl _) _
          have hT := heap_alloc_new w13 (.cells #[.int .i64 c, .bool false, .int .i64 0, .slice none 0 0, .slice none 0 0, (.slice a9 n2 c9), (.slice l9 m2 d9), .slice none 0 0, .slice none 0 0, .slice none 0 0, .slice none 0 0, .slice none 0 0, .bool false, .slice none 0 0, .slice none 0 0] 37)
          replace oB9 := owns_below oB9 kT
          replace V9 := V9.below kT
          replace hb := hb.trans (kT.mono hb.size)
          replace Bs := Bs.trans (kT.mono Bs.size)
          replace hP := block_below kT hP
          replace hQ := block_below kT hQ
          replace oB10 := owns_below oB10 kT
          replace V10 := V10.below kT
          have zP := (Array.getElem?_eq_some_iff.1 hP).1
          clear b13 kT II o12
          as_aux_lemma =>
            obtain ⟨p0, p1, p2, p3, p4, p5, p6, p7, p8, p9, p10, p11, p12, p13, p14, pz⟩ := row15 hP
            obtain ⟨q0, q1, q2, q3, q4, q5, q6, q7, q8, q9, q10, q11, q12, q13, q14, qz⟩ := row15 hT
            have E3 := eqEngineResult_same c a9 a2 l9 l2 n2 m2 c9 c2 d9 d2 bs lv (w13.alloc (.cells #[.int .i64 c, .bool false, .int .i64 0, .slice none 0 0, .slice none 0 0, (.slice a9 n2 c9), (.slice l9 m2 d9), .slice none 0 0, .slice none 0 0, .slice none 0 0, .slice none 0 0, .slice none 0 0, .bool false, .slice none 0 0, .slice none 0 0] 37)) (owns_cells oB9) (cB.below Bs) (V9.atV hlv) (cL.below Bs) hn2 hlv
            go_wp2_with fail
            refine E3.mono ?_
            rintro e w14 ⟨rfl, b14⟩
            clear p0 p1 p2 p3 p4 p5 p6 p7 p8 p9 p10 p11 p12 p13 p14 pz
            clear q0 q1 q2 q3 q4 q5 q6 q7 q8 q9 q10 q11 q12 q13 q14 qz
            replace hb := hb.trans (b14.mono hb.size)
            replace hQ := block_below b14 hQ
            replace oB10 := owns_below oB10 b14
            replace V10 := V10.below b14
            clear E3 b14 hT hP
            obtain ⟨q0, q1, q2, q3, q4, q5, q6, q7, q8, q9, q10, q11, q12, q13, q14, qz⟩ := row15 hQ
            have D2 := heldEngineResult_any c a4 l4 n2 m2 c4 d4 lv w14 (owns_cells oB10) (V10.atM hlv) hn2 hlv
            rw [HM.out] at D2
            go_wp2_with fail
            refine D2.mono ?_
            rintro e w15 ⟨rfl, b15⟩
            go_wp2
            go_ret
            exact ⟨rfl, hb.trans (b15.mono hb.size)⟩
end Go.Proofs.Ytjjbjdjkcckgmaa
