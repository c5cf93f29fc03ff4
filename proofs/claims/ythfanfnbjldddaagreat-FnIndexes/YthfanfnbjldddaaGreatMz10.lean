/- Several texts in one: ValW, PutG, PutH, DropL, PutL, RcA, RecW, Cln0, SetI, SetV, SetS. -/
import Derived.Test.YthfanfnbjldddaaGreatMz2
import Derived.Test.YthfanfnbjldddaaGreatFindI
import Derived.Test.YthfanfnbjldddaaGreatMz0
import Derived.Test.YthfanfnbjldddaaGreatDropI
import Derived.Test.YthfanfnbjldddaaGreatResL
import Derived.Deep.DeepCutAuto
import Derived.Test.YthfanfnbjldddaaGreatRowa
import Derived.Test.YthfanfnbjldddaaGreatLvB
import Derived.Test.YthfanfnbjldddaaGreatMz4
import Derived.Test.YthfanfnbjldddaaGreatCopyW
import Derived.Maps.AppendAt
import Derived.Lib.AppendZeros
import Derived.Test.YthfanfnbjldddaaGreatMz6


/- ValueIn and BeforeOf, of the program and of the model. -/
namespace Go.Proofs.YthfanfnbjldddaaGreat
open Go.RowKit

/-- A box of two cells, behind what only makes memory. -/
theorem two_box {w w1 : World} {t : TypeId} {c0 c1 : Value} (b : Below (w.alloc (.cells #[c0, c1] t)).heap.size (w.alloc (.cells #[c0, c1] t)) w1) :
    w1.cell? ⟨w.heap.size, 0, none⟩ = some c0 ∧ w1.cell? ⟨w.heap.size, 1, none⟩ = some c1 ∧ w1.frozen? ⟨w.heap.size, 0, none⟩ = false ∧ w1.frozen? ⟨w.heap.size, 1, none⟩ = false := by
  obtain ⟨cA, fA⟩ := bcell b
  have x0 := cA w.heap.size 0 (by simp)
  have x1 := cA w.heap.size 1 (by simp)
  have f0 := fA w.heap.size 0 (by simp)
  have f1 := fA w.heap.size 1 (by simp)
  simp [go_sem] at x0 x1 f0 f1
  exact ⟨x0, x1, f0, f1⟩
/-- A box of three cells, behind what only makes memory. -/
theorem three_box {w w1 : World} {t : TypeId} {c0 c1 c2 : Value} (b : Below (w.alloc (.cells #[c0, c1, c2] t)).heap.size (w.alloc (.cells #[c0, c1, c2] t)) w1) :
    w1.cell? ⟨w.heap.size, 0, none⟩ = some c0 ∧ w1.cell? ⟨w.heap.size, 1, none⟩ = some c1 ∧ w1.cell? ⟨w.heap.size, 2, none⟩ = some c2 ∧ w1.frozen? ⟨w.heap.size, 0, none⟩ = false ∧ w1.frozen? ⟨w.heap.size, 1, none⟩ = false ∧ w1.frozen? ⟨w.heap.size, 2, none⟩ = false := by
  obtain ⟨cA, fA⟩ := bcell b
  have x0 := cA w.heap.size 0 (by simp)
  have x1 := cA w.heap.size 1 (by simp)
  have x2 := cA w.heap.size 2 (by simp)
  have f0 := fA w.heap.size 0 (by simp)
  have f1 := fA w.heap.size 1 (by simp)
  have f2 := fA w.heap.size 2 (by simp)
  simp [go_sem] at x0 x1 x2 f0 f1 f2
  exact ⟨x0, x1, x2, f0, f1, f2⟩

set_option linter.unusedSimpArgs false in
set_option maxHeartbeats 2000000 in
theorem implValueIn_any (a : Option Addr) (n cap : Nat) (key : Int) (ls : List (List Ch.Row)) (w : World) (h : LvAt w a n ls) (hs : Ch.lvSize ls ≤ 1048576) :
    Calls Tryz.prog 35 #[.slice a n cap, .int .i64 key] w fun e w' => e = .returned (.agg #[.int .i64 (Ch.valR ls key).1, .int .i64 (Ch.valR ls key).2]) ∧ Below w.heap.size w w' := by
  have b0 : Below w.heap.size w (w.alloc (.cells #[.int .i64 0, .int .i64 0] 76)) := (Below.refl _ _).alloc (Nat.le_refl _) _
  have FI := fun W hW => implFindRow_any a n cap key ls W hW hs
  cases hc : (Ch.asked ls key != 0)
  · cases hf : Ch.findR ls key with
    | none =>
      rw [Ch.valR_none hc (Ch.has_none hf)]
      rw [Ch.findRR_none hc hf] at FI
      clear hc hf
      go_enter Tryz.func35, Tryz.ntmps35
      go_wp2_with fail
      refine (FI _ (h.below b0)).mono ?_
      rintro e w1 ⟨a', m, c', rfl, hm, own, b1⟩
      obtain ⟨x0, x1, f0, f1⟩ := two_box b1
      have hz := lt_of_cell x0
      have bE := b0.trans (b1.mono b0.size)
      clear b1 own FI
      go_wp2
      exact bodyPost_ret (v := .agg #[.int .i64 4, .int .i64 0]) (by simp [results, Tryz.results35, go_sem, x0, x1, hz]) rfl ⟨rfl, Below.alloc ((bE.setCell (p := ⟨w.heap.size, 0, none⟩) (Nat.le_refl _) _).setCell (p := ⟨w.heap.size, 1, none⟩) (Nat.le_refl _) _) (by simp; omega) _⟩
    | some r =>
      obtain ⟨rk, rv, rg⟩ := r
      rw [Ch.findRR_some hc hf] at FI
      cases rg
      · rw [Ch.valR_some hc (Ch.has_row hf)]
        clear hc hf
        go_enter Tryz.func35, Tryz.ntmps35
        go_wp2_with fail
        refine (FI _ (h.below b0)).mono ?_
        rintro e w1 ⟨a', m, c', rfl, hm, own, b1⟩
        obtain ⟨x0, x1, f0, f1⟩ := two_box b1
        have hz := lt_of_cell x0
        have bE := b0.trans (b1.mono b0.size)
        have hm1 : m = 1 := (owns_cells own).rlen.out
        subst hm1
        obtain ⟨b, off, rfl, q0, q1, q2⟩ := (owns_cells own).row (k := 0) (by omega)
        simp only [Nat.zero_mul, Nat.add_zero, List.getD_cons_zero] at q0 q1 q2
        have hq := lt_of_cell q0
        clear b1 own FI
        go_wp2
        exact bodyPost_ret (v := .agg #[.int .i64 0, .int .i64 rv]) (by simp [results, Tryz.results35, go_sem, x0, x1, hz]) rfl ⟨rfl, Below.alloc ((bE.setCell (p := ⟨w.heap.size, 0, none⟩) (Nat.le_refl _) _).setCell (p := ⟨w.heap.size, 1, none⟩) (Nat.le_refl _) _) (by simp; omega) _⟩
      · rw [Ch.valR_none hc (Ch.has_ghost hf)]
        clear hc hf
        go_enter Tryz.func35, Tryz.ntmps35
        go_wp2_with fail
        refine (FI _ (h.below b0)).mono ?_
        rintro e w1 ⟨a', m, c', rfl, hm, own, b1⟩
        obtain ⟨x0, x1, f0, f1⟩ := two_box b1
        have hz := lt_of_cell x0
        have bE := b0.trans (b1.mono b0.size)
        have hm1 : m = 1 := (owns_cells own).rlen.out
        subst hm1
        obtain ⟨b, off, rfl, q0, q1, q2⟩ := (owns_cells own).row (k := 0) (by omega)
        simp only [Nat.zero_mul, Nat.add_zero, List.getD_cons_zero] at q0 q1 q2
        have hq := lt_of_cell q0
        clear b1 own FI
        go_wp2
        exact bodyPost_ret (v := .agg #[.int .i64 4, .int .i64 0]) (by simp [results, Tryz.results35, go_sem, x0, x1, hz]) rfl ⟨rfl, Below.alloc ((bE.setCell (p := ⟨w.heap.size, 0, none⟩) (Nat.le_refl _) _).setCell (p := ⟨w.heap.size, 1, none⟩) (Nat.le_refl _) _) (by simp; omega) _⟩
  · rw [Ch.valR_code hc]
    rw [Ch.findRR_code hc] at FI
    generalize Ch.asked ls key = c at *
    go_enter Tryz.func35, Tryz.ntmps35
    go_wp2_with fail
    refine (FI _ (h.below b0)).mono ?_
    rintro e w1 ⟨a', m, c', rfl, hm, own, b1⟩
    obtain ⟨x0, x1, f0, f1⟩ := two_box b1
    have hz := lt_of_cell x0
    have bE := b0.trans (b1.mono b0.size)
    clear b1 own FI
    go_wp2
    exact bodyPost_ret (v := .agg #[.int .i64 c, .int .i64 0]) (by simp [results, Tryz.results35, go_sem, x0, x1, hz]) rfl ⟨rfl, Below.alloc ((bE.setCell (p := ⟨w.heap.size, 0, none⟩) (Nat.le_refl _) _).setCell (p := ⟨w.heap.size, 1, none⟩) (Nat.le_refl _) _) (by simp; omega) _⟩

theorem Ch.bf_some {key v : Int} : Ch.bf key (some v) = ⟨key, true, v⟩ := rfl
theorem Ch.bf_none {key : Int} : Ch.bf key none = ⟨key, false, 0⟩ := rfl

set_option linter.unusedSimpArgs false in
set_option maxHeartbeats 2000000 in
theorem implBeforeOf_any (a : Option Addr) (n cap : Nat) (key : Int) (ls : List (List Ch.Row)) (w : World) (h : LvAt w a n ls) (hs : Ch.lvSize ls ≤ 1048576) :
    Calls Tryz.prog 11 #[.slice a n cap, .int .i64 key] w fun e w' => e = .returned (.agg #[.int .i64 (Ch.bfOf ls key).k, .bool (Ch.bfOf ls key).h, .int .i64 (Ch.bfOf ls key).v]) ∧ Below w.heap.size w w' := by
  have b0 : ∀ t, Below w.heap.size w ((w.alloc (.cells #[.int .i64 0, .bool false, .int .i64 0] 36)).alloc (.cells #[.int .i64 key] t)) := fun t => Below.alloc (Below.alloc (Below.refl _ w) (Nat.le_refl _) _) (by simp) _
  have VI := fun W hW => implValueIn_any a n cap key ls W hW hs
  cases hc : (Ch.asked ls key != 0)
  · rw [Ch.bfOf_ok hc]
    cases hh : Ch.has ls key with
    | none =>
      rw [Ch.valR_none hc hh] at VI
      rw [Ch.bf_none]
      go_enter Tryz.func11, Tryz.ntmps11
      go_wp2_with fail
      refine (implKeys_any a n cap ls _ 1 1 [key] _ (h.below (b0 _)) hs one_key (by omega)).mono ?_
      rintro e w1 ⟨rfl, b1⟩
      obtain ⟨x0, x1, x2, f0, f1, f2⟩ := three_box (below_box b1)
      have hz := lt_of_cell x0
      have bE := (b0 _).trans (b1.mono (b0 _).size)
      rw [askedAll_one]
      generalize Ch.asked ls key = c at *
      clear b1
      go_wp2_with fail
      refine (VI _ (h.below bE)).mono ?_
      rintro e w2 ⟨rfl, b2⟩
      replace x0 := keep_cell b2 x0
      replace x1 := keep_cell b2 x1
      replace x2 := keep_cell b2 x2
      replace f0 := ((bcell b2).2 w.heap.size 0 hz).trans f0
      replace f1 := ((bcell b2).2 w.heap.size 1 hz).trans f1
      replace f2 := ((bcell b2).2 w.heap.size 2 hz).trans f2
      have hz2 := lt_of_cell x0
      have bE2 := bE.trans (b2.mono bE.size)
      clear b2 VI hc hz bE
      go_wp2
      exact bodyPost_ret (v := .agg #[.int .i64 key, .bool false, .int .i64 0]) (by simp [results, Tryz.results11, go_sem, x0, x1, x2, hz2]) rfl ⟨rfl, Below.alloc (((bE2.setCell (p := ⟨w.heap.size, 0, none⟩) (Nat.le_refl _) _).setCell (p := ⟨w.heap.size, 1, none⟩) (Nat.le_refl _) _).setCell (p := ⟨w.heap.size, 2, none⟩) (Nat.le_refl _) _) (by simp; omega) _⟩
    | some v =>
      rw [Ch.valR_some hc hh] at VI
      rw [Ch.bf_some]
      go_enter Tryz.func11, Tryz.ntmps11
      go_wp2_with fail
      refine (implKeys_any a n cap ls _ 1 1 [key] _ (h.below (b0 _)) hs one_key (by omega)).mono ?_
      rintro e w1 ⟨rfl, b1⟩
      obtain ⟨x0, x1, x2, f0, f1, f2⟩ := three_box (below_box b1)
      have hz := lt_of_cell x0
      have bE := (b0 _).trans (b1.mono (b0 _).size)
      rw [askedAll_one]
      generalize Ch.asked ls key = c at *
      clear b1
      go_wp2_with fail
      refine (VI _ (h.below bE)).mono ?_
      rintro e w2 ⟨rfl, b2⟩
      replace x0 := keep_cell b2 x0
      replace x1 := keep_cell b2 x1
      replace x2 := keep_cell b2 x2
      replace f0 := ((bcell b2).2 w.heap.size 0 hz).trans f0
      replace f1 := ((bcell b2).2 w.heap.size 1 hz).trans f1
      replace f2 := ((bcell b2).2 w.heap.size 2 hz).trans f2
      have hz2 := lt_of_cell x0
      have bE2 := bE.trans (b2.mono bE.size)
      clear b2 VI hc hz bE
      go_wp2
      exact bodyPost_ret (v := .agg #[.int .i64 key, .bool true, .int .i64 v]) (by simp [results, Tryz.results11, go_sem, x0, x1, x2, hz2]) rfl ⟨rfl, Below.alloc (((bE2.setCell (p := ⟨w.heap.size, 0, none⟩) (Nat.le_refl _) _).setCell (p := ⟨w.heap.size, 1, none⟩) (Nat.le_refl _) _).setCell (p := ⟨w.heap.size, 2, none⟩) (Nat.le_refl _) _) (by simp; omega) _⟩
  · rw [Ch.bfOf_code hc]
    go_enter Tryz.func11, Tryz.ntmps11
    go_wp2_with fail
    refine (implKeys_any a n cap ls _ 1 1 [key] _ (h.below (b0 _)) hs one_key (by omega)).mono ?_
    rintro e w1 ⟨rfl, b1⟩
    obtain ⟨x0, x1, x2, f0, f1, f2⟩ := three_box (below_box b1)
    have hz := lt_of_cell x0
    have bE := (b0 _).trans (b1.mono (b0 _).size)
    rw [askedAll_one]
    generalize Ch.asked ls key = c at *
    clear b1
    go_wp2
    exact bodyPost_ret (v := .agg #[.int .i64 0, .bool false, .int .i64 0]) (by simp [results, Tryz.results11, go_sem, x0, x1, x2, hz]) rfl ⟨rfl, ((bE.setCell (p := ⟨w.heap.size, 0, none⟩) (Nat.le_refl _) _).setCell (p := ⟨w.heap.size, 1, none⟩) (Nat.le_refl _) _).setCell (p := ⟨w.heap.size, 2, none⟩) (Nat.le_refl _) _⟩

set_option linter.unusedSimpArgs false in
set_option maxHeartbeats 2000000 in
theorem l8Before_any (a : Option Addr) (n cap : Nat) (key : Int) (ls : List (List Ch.Row)) (w : World) (h : LvAt w a n ls) (hs : Ch.lvSize ls ≤ 1048576) (hg : ∀ k, k < n → (ls.getD k []).length ≠ 0) :
    Calls Tryz.prog 56 #[.slice a n cap, .int .i64 key] w fun e w' => e = .returned (.agg #[.int .i64 (Ch.bf key (Ch.has ls key)).k, .bool (Ch.bf key (Ch.has ls key)).h, .int .i64 (Ch.bf key (Ch.has ls key)).v]) ∧ Below w.heap.size w w' := by
  have b0 : Below w.heap.size w (w.alloc (.cells #[.int .i64 0, .bool false, .int .i64 0] 36)) := (Below.refl _ _).alloc (Nat.le_refl _) _
  have FI := fun W hW => specFind_any a n cap key ls W hW hs hg
  have HR := hid (fun rk rv hf => congrArg (Ch.bf key) (Ch.has_row (ls := ls) (key := key) (rk := rk) (rv := rv) hf))
  have HG := hid (fun rk rv hf => congrArg (Ch.bf key) (Ch.has_ghost (ls := ls) (key := key) (rk := rk) (rv := rv) hf))
  have HN := hid (fun hf => congrArg (Ch.bf key) (Ch.has_none (ls := ls) (key := key) hf))
  generalize Ch.bf key (Ch.has ls key) = X at *
  go_enter Tryz.func56, Tryz.ntmps56
  go_wp2_with fail
  refine (FI _ (h.below b0)).mono ?_
  rintro e w1 ⟨⟨rk, rv, rg⟩, ok, rfl, his, b1⟩
  obtain ⟨x0, x1, x2, f0, f1, f2⟩ := three_box b1
  have hz := lt_of_cell x0
  have bE := b0.trans (b1.mono b0.size)
  clear b1 FI
  rcases his with ⟨rfl, hf⟩ | ⟨rfl, hf⟩
  · cases rg
    · have HX := hid (HR.out _ _ hf)
      clear hf HR HG HN
      go_wp2
      exact bodyPost_ret (v := .agg #[.int .i64 key, .bool true, .int .i64 rv]) (by simp [results, Tryz.results56, go_sem, x0, x1, x2, hz]) rfl ⟨by rw [HX.out]; rfl, Below.alloc (((bE.setCell (p := ⟨w.heap.size, 0, none⟩) (Nat.le_refl _) _).setCell (p := ⟨w.heap.size, 1, none⟩) (Nat.le_refl _) _).setCell (p := ⟨w.heap.size, 2, none⟩) (Nat.le_refl _) _) (by simp; omega) _⟩
    · have HX := hid (HG.out _ _ hf)
      clear hf HR HG HN
      go_wp2
      exact bodyPost_ret (v := .agg #[.int .i64 key, .bool false, .int .i64 0]) (by simp [results, Tryz.results56, go_sem, x0, x1, x2, hz]) rfl ⟨by rw [HX.out]; rfl, Below.alloc (((bE.setCell (p := ⟨w.heap.size, 0, none⟩) (Nat.le_refl _) _).setCell (p := ⟨w.heap.size, 1, none⟩) (Nat.le_refl _) _).setCell (p := ⟨w.heap.size, 2, none⟩) (Nat.le_refl _) _) (by simp; omega) _⟩
  · have HX := hid (HN.out hf)
    clear hf HR HG HN
    go_wp2
    exact bodyPost_ret (v := .agg #[.int .i64 key, .bool false, .int .i64 0]) (by simp [results, Tryz.results56, go_sem, x0, x1, x2, hz]) rfl ⟨by rw [HX.out]; rfl, Below.alloc (((bE.setCell (p := ⟨w.heap.size, 0, none⟩) (Nat.le_refl _) _).setCell (p := ⟨w.heap.size, 1, none⟩) (Nat.le_refl _) _).setCell (p := ⟨w.heap.size, 2, none⟩) (Nat.le_refl _) _) (by simp; omega) _⟩

theorem good_leaves {ls : List (List Ch.Row)} {n : Nat} {key : Int} (hl : n = ls.length) (hc : (Ch.asked ls key != 0) = false) : ∀ k, k < n → (ls.getD k []).length ≠ 0 := by
  intro k hk
  exact (Ch.good_leaf (Ch.asked_good (ls := ls) (key := key) (by simpa using hc)).1 k (by omega)).1

end Go.Proofs.YthfanfnbjldddaaGreat


/- splitLeaf of the program. -/
namespace Go.Proofs.YthfanfnbjldddaaGreat
open Go.RowKit

/-- One list is grown, in its own block or in a new one, and put back. -/
theorem OwnV.redo {w w' : World} {B g n cap k : Nat} {vs : List Value} {ls : List (List Ch.Row)} {x x' : Value} {l' : List Ch.Row} (h : OwnV w B (.slice (some ⟨g, 0, none⟩) n cap) n vs ls) (hk : k < n) (hx : vs[k]? = some x) (hg : w.grownBy w' x.ownBlock) (hb : ∀ q, x'.ownBlock = some q → x.ownBlock = some q ∨ w.heap.size ≤ q)
    (ho' : w'.ownsRow B 53 3 x' l'.length (rcells l')) : OwnV (w'.setCell ⟨g, k, none⟩ x') B (.slice (some ⟨g, 0, none⟩) n cap) n (vs.set k x') (ls.set k l') := by
  have hlt := h.lt
  obtain ⟨hl, ho, hi, hd, hd'⟩ := h
  have hgl := (owns_lt ho g rfl).2
  have hvl : vs.length = n := by have := ho.1; omega
  have ho1 := owns_grown ho hg (fun g' hg' e => hd' k x g' hx hg' e)
  have hst := ho1.stored k x'
  have get : ∀ (i : Nat) (y : Value), (vs.set k x')[i]? = some y → (i = k ∧ y = x') ∨ (i ≠ k ∧ vs[i]? = some y) := by
    intro i y hy
    by_cases hik : k = i
    · subst hik
      rw [List.getElem?_set_self (by omega)] at hy
      cases hy
      exact .inl ⟨rfl, rfl⟩
    · rw [List.getElem?_set_ne hik] at hy
      exact .inr ⟨fun e => hik e.symm, hy⟩
  have far : ∀ (i : Nat) (y : Value) (q : Nat), i ≠ k → vs[i]? = some y → y.ownBlock = some q → x'.ownBlock ≠ some q := by
    intro i y q hne hy hyq hxq
    have h1 := hlt i y q hy hyq
    rcases hb q hxq with h2 | h2
    · rcases Nat.lt_or_gt_of_ne hne with h3 | h3
      · exact hd i k y x q h3 hy hx hyq h2
      · exact hd k i x y q h3 hx hy h2 hyq
    · omega
  have farg : x'.ownBlock ≠ some g := by
    intro hxq
    rcases hb g hxq with h2 | h2
    · exact hd' k x g hx rfl h2
    · omega
  refine ⟨by simpa using hl, hst.1, fun i hlt' => ?_, ?_, ?_⟩
  · by_cases hik : k = i
    · subst hik
      refine ⟨x', by simp [hvl, hk], ?_⟩
      have e : (ls.set k l').getD k [] = l' := by simp [List.getD, hl, hk]
      rw [e]
      refine owns_grown ho' hst.2 fun g' hg' he => ?_
      simp at he
      subst he
      exact farg hg'
    · obtain ⟨y, h1, h2⟩ := hi i hlt'
      refine ⟨y, by rw [List.getElem?_set_ne hik]; exact h1, ?_⟩
      have e : (ls.set k l').getD i [] = ls.getD i [] := by simp [List.getD, hik]
      rw [e]
      refine owns_grown (owns_grown h2 hg fun g' hg' e => ?_) hst.2 fun g' hg' he => ?_
      · rcases Nat.lt_or_gt_of_ne hik with hlt' | hgt
        · exact hd k i x y g' hlt' hx h1 e hg'
        · exact hd i k y x g' hgt h1 hx hg' e
      · simp at he
        subst he
        exact hd' i y _ h1 rfl hg'
  · intro i j y z g' hij hy hz hyg hzg
    rcases get i y hy with ⟨h1, rfl⟩ | ⟨h1, h2⟩
    · rcases get j z hz with ⟨h3, rfl⟩ | ⟨h3, h4⟩
      · omega
      · exact far j z g' h3 h4 hzg hyg
    · rcases get j z hz with ⟨h3, rfl⟩ | ⟨h3, h4⟩
      · exact far i y g' h1 h2 hyg hzg
      · exact hd i j y z g' hij h2 h4 hyg hzg
  · intro i y g' hy hv hyg
    simp [Value.ownBlock] at hv
    subst hv
    rcases get i y hy with ⟨h1, rfl⟩ | ⟨h1, h2⟩
    · exact farg hyg
    · exact hd' i y _ h2 rfl hyg

/-- A new leaf is put in between. -/
theorem OwnV.ins {w0 W w2 : World} {B g n cap g' c' i : Nat} {vs : List Value} {ls : List (List Ch.Row)} {x : Value} {l : List Ch.Row} (h : OwnV w0 B (.slice (some ⟨g, 0, none⟩) n cap) n vs ls) (hb : Below w0.heap.size w0 W)
    (hx : W.ownsRow w0.heap.size 53 3 x l.length (rcells l)) (hB : B ≤ w0.heap.size) (hi' : i ≤ n)
    (h2 : w2.ownsRow B 80 1 (.slice (some ⟨g', 0, none⟩) (n + 1) c') (n + 1) (vs.take i ++ [x] ++ vs.drop i)) (hg : W.grownBy w2 (some g)) (hat : g' = g ∨ W.heap.size ≤ g') : OwnLv w2 B (.slice (some ⟨g', 0, none⟩) (n + 1) c') (n + 1) (ls.take i ++ [l] ++ ls.drop i) := by
  have hlt := h.lt
  obtain ⟨hl, ho, hi, hd, hd'⟩ := h
  have hvl : vs.length = n := by have := ho.1; omega
  have hsz := hb.size
  have Lx := owns_lt hx
  have hgl := (owns_lt ho g rfl).2
  have get : ∀ j, (vs.take i ++ [x] ++ vs.drop i)[j]? = if j < i then vs[j]? else if j = i then some x else vs[j - 1]? := by
    intro j
    have htl : (vs.take i).length = i := by simp; omega
    rcases Nat.lt_trichotomy j i with h | h | h
    · rw [if_pos h, List.append_assoc, List.getElem?_append_left (by omega), List.getElem?_take, if_pos h]
    · subst h
      rw [if_neg (by omega), if_pos rfl, List.append_assoc, List.getElem?_append_right (by omega), htl]
      simp
    · rw [if_neg (by omega), if_neg (by omega), List.getElem?_append_right (by simp; omega), List.getElem?_drop]
      simp only [List.length_append, htl, List.length_cons, List.length_nil]
      congr 1; omega
  have getl : ∀ j, (ls.take i ++ [l] ++ ls.drop i).getD j [] = if j < i then ls.getD j [] else if j = i then l else ls.getD (j - 1) [] := by
    intro j
    have htl : (ls.take i).length = i := by simp; omega
    simp only [List.getD]
    rcases Nat.lt_trichotomy j i with h | h | h
    · rw [if_pos h, List.append_assoc, List.getElem?_append_left (by omega), List.getElem?_take, if_pos h]
    · subst h
      rw [if_neg (by omega), if_pos rfl, List.append_assoc, List.getElem?_append_right (by omega), htl]
      simp
    · rw [if_neg (by omega), if_neg (by omega), List.getElem?_append_right (by simp; omega), List.getElem?_drop]
      simp only [List.length_append, htl, List.length_cons, List.length_nil]
      congr 2; omega
  have tell : ∀ (j : Nat) (y : Value), (vs.take i ++ [x] ++ vs.drop i)[j]? = some y → (j = i ∧ y = x) ∨ (j ≠ i ∧ vs[if j < i then j else j - 1]? = some y) := by
    intro j y hy
    rw [get] at hy
    by_cases h1 : j < i
    · rw [if_pos h1] at hy
      exact .inr ⟨by omega, by rw [if_pos h1]; exact hy⟩
    · rw [if_neg h1] at hy
      by_cases h2 : j = i
      · rw [if_pos h2] at hy
        exact .inl ⟨h2, by simpa using hy.symm⟩
      · rw [if_neg h2] at hy
        exact .inr ⟨h2, by rw [if_neg h1]; exact hy⟩
  refine ⟨by simp; omega, _, h2, fun j hj => ?_, ?_, ?_⟩
  · rw [get, getl]
    by_cases h2 : j = i
    · subst h2
      rw [if_neg (by omega), if_pos rfl, if_neg (by omega), if_pos rfl]
      exact ⟨x, rfl, owns_base (owns_grown hx hg fun q hq e => by
        have := Lx q hq
        simp at e
        omega) hB⟩
    · have : ∃ jj, jj < n ∧ (if j < i then vs[j]? else if j = i then some x else vs[j - 1]?) = vs[jj]? ∧ (if j < i then ls.getD j [] else if j = i then l else ls.getD (j - 1) []) = ls.getD jj [] := by
        by_cases h1 : j < i
        · exact ⟨j, by omega, by rw [if_pos h1], by rw [if_pos h1]⟩
        · exact ⟨j - 1, by omega, by rw [if_neg h1, if_neg h2], by rw [if_neg h1, if_neg h2]⟩
      obtain ⟨jj, hjj, e1, e2⟩ := this
      rw [e1, e2]
      obtain ⟨y, h3, h4⟩ := hi jj hjj
      refine ⟨y, h3, owns_grown (owns_below h4 hb) hg fun q hq e => ?_⟩
      simp at e
      subst e
      exact hd' jj y _ h3 rfl hq
  · intro j1 j2 y z q hj hy hz hyq hzq
    rcases tell j1 y hy with ⟨h3, rfl⟩ | ⟨h3, h4⟩
    · rcases tell j2 z hz with ⟨h5, rfl⟩ | ⟨h5, h6⟩
      · omega
      · have := hlt _ z q h6 hzq
        have := Lx q hyq
        omega
    · rcases tell j2 z hz with ⟨h5, rfl⟩ | ⟨h5, h6⟩
      · have := hlt _ y q h4 hyq
        have := Lx q hzq
        omega
      · exact hd _ _ y z q (by split <;> split <;> omega) h4 h6 hyq hzq
  · intro j y q hy hv hyq
    simp [Value.ownBlock] at hv
    subst hv
    rcases tell j y hy with ⟨h3, rfl⟩ | ⟨h3, h4⟩
    · have := Lx g' hyq
      rcases hat with h5 | h5 <;> omega
    · have := hlt _ y g' h4 hyq
      rcases hat with h5 | h5
      · subst h5; exact hd' _ y _ h4 rfl hyq
      · omega

theorem Ch.split_is (ls : List (List Ch.Row)) (k : Nat) (l1 l2 : List Ch.Row) (h : k < ls.length) : (ls.set k l1).take (k + 1) ++ [l2] ++ (ls.set k l1).drop (k + 1) = ls.take k ++ [l1, l2] ++ ls.drop (k + 1) := by
  rw [List.drop_set, if_pos (by omega), List.take_add_one, List.take_set, List.set_eq_of_length_le (by simp; omega)]
  simp [h]

set_option maxHeartbeats 4000000 in
theorem splitLeaf_any (B g n cap k : Nat) (ls : List (List Ch.Row)) (w : World) (h : OwnLv w B (.slice (some ⟨g, 0, none⟩) n cap) n ls) (hk : k < n) (hn : n ≤ 1048576) (hB : B ≤ w.heap.size) (h2 : 2 ≤ (ls.getD k []).length) (h9 : (ls.getD k []).length ≤ 1048576) :
    Calls Tryz.prog 79 #[.slice (some ⟨g, 0, none⟩) n cap, .int .i64 k] w fun e w' => ∃ g' c', e = .returned (.slice (some ⟨g', 0, none⟩) (n + 1) c') ∧ OwnLv w' B (.slice (some ⟨g', 0, none⟩) (n + 1) c') (n + 1) (ls.take k ++ [(ls.getD k []).take ((ls.getD k []).length / 2), (ls.getD k []).drop ((ls.getD k []).length / 2)] ++ ls.drop (k + 1)) ∧ Below B w w' := by
  have hll := h.1
  obtain ⟨vs, hV⟩ := h.told
  obtain ⟨b, ai, ci, hbe, hbl, cg, hvk, ho, _⟩ := hV.leafAt hk
  simp only [Option.some.injEq, Addr.mk.injEq, and_true] at hbe
  subst hbe
  have hgi0 := hV.2.2.2.2 k _ g hvk rfl
  have Lg := owns_bounds hV.2.1
  have HSp := hid (fun l1 l2 => Ch.split_is ls k l1 l2 (by omega))
  generalize hl : ls.getD k [] = l at *
  generalize hL : l.length = L at *
  rcases ho.2 with ⟨_, h00⟩ | ⟨gi, cp, cur, hv, _⟩
  · omega
  simp only [Value.slice.injEq, true_and] at hv
  obtain ⟨rfl, rfl⟩ := hv
  have Lgi := owns_bounds ho
  have hgi : gi ≠ g := fun e => hgi0 (by rw [← e]; rfl)
  have hcap := owns_capN ho
  have hc := owns_cells ho
  obtain ⟨hf, hhf⟩ : ∃ hf, hf = L / 2 := ⟨_, rfl⟩
  rw [← hhf]
  have hq : (L : Int).tdiv 2 = (hf : Int) := by rw [Int.tdiv_eq_ediv_of_nonneg (by omega)]; omega
  have hh1 : hf ≤ L := by omega
  have hh2 : hf ≤ ci := by omega
  have hh3 : ¬ ci = hf := by omega
  have hh4 : 1 ≤ hf := by omega
  have hh5 : hf < L := by omega
  have hcL := hc.cutL hh1
  have hcR := hc.cutR hh1
  rw [Nat.zero_add] at hcR
  have HLL : Hid ((l.take hf).length = hf) := by show _ = _; simp; omega
  have HLR : Hid ((l.drop hf).length = L - hf) := by show _ = _; simp; omega
  clear hhf hc
  have hwk : IntKind.i64.wrap ((k : Int) + 1) = (k : Int) + 1 := IntWalk.i64_in _ ⟨by omega, by omega⟩
  go_enter Tryz.func79, Tryz.ntmps79
  go_wp2_with fail
  refine (cloneRows_any ⟨gi, 0, none⟩ hf ci (l.take hf) w hcL (by omega)).mono ?_
  rintro e w1 ⟨a1, c1, rfl, own1, b1⟩
  have cg1 := keep_cell b1 cg
  have fg1 := (owns_below hV.2.1 b1).frozenAt k
  have hz1 := b1.size
  have hg1 := lt_of_cell cg1
  have own1' : w1.ownsRow w.heap.size 53 3 (.slice a1 hf c1) (l.take hf).length (rcells (l.take hf)) := by rw [HLL.out]; exact own1
  have O2 := h.put b1 own1' hk hB
  have hcR1 := hcR.below b1
  have hcR2 : CellsAt (w1.setCell ⟨g, k, none⟩ (.slice a1 hf c1)) (some ⟨gi, hf * 3, none⟩) ((L - hf) * 3) (rcells (l.drop hf)) :=
    hcR1.grown (row := some g) ⟨rfl, rfl, rfl, by simp [World.setCell], fun q _ hne => Below.heap_setCell _ _ _ _ (by intro e; exact hne (by rw [e]))⟩ (fun b off e e2 => by cases e; simp at e2; exact hgi e2.symm)
  have B2 : Below B w (w1.setCell ⟨g, k, none⟩ (.slice a1 hf c1)) := (b1.mono hB).setCell (p := ⟨g, k, none⟩) Lg.1 _
  have hz2 : (w1.setCell ⟨g, k, none⟩ (.slice a1 hf c1)).heap.size = w1.heap.size := by simp [World.setCell]
  go_wp2_with fail
  refine (cloneRows_any ⟨gi, hf * 3, none⟩ (L - hf) (ci - hf) (l.drop hf) _ hcR2 (by omega)).mono ?_
  rintro e w3 ⟨a3, c3, rfl, own3, b3⟩
  generalize w1.setCell ⟨g, k, none⟩ (.slice a1 hf c1) = w2 at *
  obtain ⟨vs2, hV2⟩ := O2.told
  have hone := inner_one hV2
  have b3' : ∀ o, Below w2.heap.size w2 (w3.alloc o) := fun o => b3.alloc b3.size _
  have own3' : ∀ o, (w3.alloc o).ownsRow w2.heap.size 53 3 (.slice a3 (L - hf) c3) (l.drop hf).length (rcells (l.drop hf)) := fun o => by rw [HLR.out]; exact owns_below own3 ((Below.refl _ _).alloc (Nat.le_refl _) _)
  have hz3 := b3.size
  have hB3 : ∀ o, Below B w (w3.alloc o) := fun o => (B2.trans (b3.mono (by omega))).alloc (by omega) _
  go_wp2_with fail
  refine (insertL_any B g n cap (k + 1) w3.heap.size vs2 [.slice a3 (L - hf) c3] _ (owns_below hV2.2.1 (b3' _)) (heap_newI rfl) rfl (by simp [Value.oneCell']) hone hn (by omega) (by simp; omega) (by omega)).mono ?_
  rintro e w4 ⟨g4, c4, rfl, own4, gr4, at4⟩
  go_wp2
  go_ret
  simp only [Nat.mul_one] at own4
  refine ⟨g4, c4, rfl, ?_, (hB3 _).grown gr4 (by simp; omega) (fun q hq => by simp at hq; omega)⟩
  have := hV2.ins (l := l.drop hf) (b3' _) (own3' _) (by omega) (by omega) own4 gr4 at4
  rw [HSp.out] at this
  exact this
end Go.Proofs.YthfanfnbjldddaaGreat


/- PutRow of the program. -/
namespace Go.Proofs.YthfanfnbjldddaaGreat
open Go.RowKit Go.Maps

theorem step_look {ops : Array Oper} {o : Oper} {a : Act} {w : World} {K : Act → World → Prop} {Q : Exit → Act → World → Prop} {E : Prop} (m x : Operand) (B N : Nat) (D : DataW Unit) (key : Int) (i j : Nat) (bb : Bool)
    (hop : o.op = Op.lookup 123 m x true) (hg : o.guard = none) (hm : a.eval m = .map (some B)) (hx : a.eval x = .int .i64 key) (hown : w.ownsMap Tryz.prog 2 plElem B N D) (h0 : 0 ≤ key) (h1 : key ≤ 99)
    (hb : Maps.has D (kk key) = bb) (hat : D.atKey (kk key) (pl 0 0) = pl i j) (hK : K (a.put o.dst (.tuple #[.agg #[.int .i64 i, .int .i64 j], .bool bb])) w) : if Region.wanted o (yielded ops a.tmps) = true then Oper.wp Tryz.prog o a w K Q else E := by
  have hw : Region.wanted o (yielded ops a.tmps) = true := by simp [Region.wanted, hg]
  rw [if_pos hw]
  obtain ⟨v, ps, hrun, hv⟩ := hown.look_ok Tryz.keyed Tryz.underlying123 (Tryz.zeroPlace w) (plElem_mk 0 0) (kk_key h0 h1)
  unfold Oper.wp
  simp [execOp, hop, hm, hx, hrun, Result.andThen]
  have hv' : plElem v = some (D.atKey (kk key) (pl 0 0), ps) := hv
  rw [hat] at hv'
  rw [plElem_inv hv', hb]
  exact hK

theorem one_put' (W : World) (B H : Nat) (rk rv : Int) (rg : Bool) (hH : W.heap.size = H) (hB : B ≤ H) : OwnLv ((W.alloc (.cells #[.int .i64 rk, .int .i64 rv, .bool rg] 53)).alloc (.cells #[.slice (some ⟨H, 0, none⟩) 1 1] 80)) B (.slice (some ⟨H + 1, 0, none⟩) 1 1) 1 [[⟨rk, rv, rg⟩]] := by
  subst hH
  exact one_put W B rk rv rg hB

set_option linter.unusedSimpArgs false in
set_option maxRecDepth 100000 in
set_option maxHeartbeats 8000000 in
theorem implPutRow_any (a : Option Addr) (n cap : Nat) (ls : List (List Ch.Row)) (rk rv : Int) (rg : Bool) (w : World) (h : LvAt w a n ls) (hs : Ch.lvSize ls ≤ 1048576) :
    Calls Tryz.prog 48 #[.slice a n cap, .agg #[.int .i64 rk, .int .i64 rv, .bool rg]] w fun e w' => ∃ a' m c', e = .returned (.agg #[.int .i64 (Ch.putR ls ⟨rk, rv, rg⟩).1, .slice a' m c']) ∧ OwnLv w' w.heap.size (.slice a' m c') m (Ch.putR ls ⟨rk, rv, rg⟩).2 ∧ Below w.heap.size w w' := by
  have HL := h.len
  have b0 : Below w.heap.size w ((w.alloc (.cells #[.int .i64 rk, .int .i64 rv, .bool rg] 53)).alloc (.cells #[.int .i64 0, .slice none 0 0] 60)) := Below.alloc (Below.alloc (Below.refl _ w) (Nat.le_refl _) _) (by simp) _
  obtain ⟨c, Hc⟩ : ∃ c, Hid (c = Ch.leavesFault ls) := ⟨_, rfl⟩
  obtain ⟨d, Hd⟩ : ∃ d, Hid (d = Ch.rowFault rk rv rg) := ⟨_, rfl⟩
  have HA : Hid ((c != 0) = true → Ch.putR ls ⟨rk, rv, rg⟩ = (c, [])) := by rw [Hc.out]; exact fun h => Ch.putR_code h
  have HB : Hid ((c != 0) = false → (d != 0) = true → Ch.putR ls ⟨rk, rv, rg⟩ = (d, [])) := by rw [Hc.out, Hd.out]; exact fun h h' => Ch.putR_row h h'
  have HC : Hid ((c != 0) = false → (d != 0) = false → 60 < (Ch.put ls ⟨rk, rv, rg⟩).length → Ch.putR ls ⟨rk, rv, rg⟩ = (2, [])) := by rw [Hc.out, Hd.out]; exact fun h h' => Ch.putR_many h h'
  have HD : Hid ((c != 0) = false → (d != 0) = false → ¬ 60 < (Ch.put ls ⟨rk, rv, rg⟩).length → Ch.putR ls ⟨rk, rv, rg⟩ = (0, Ch.put ls ⟨rk, rv, rg⟩)) := by rw [Hc.out, Hd.out]; exact fun h h' => Ch.putR_ok h h'
  go_enter Tryz.func48, Tryz.ntmps48
  go_wp2_with fail
  refine (implLeaves_any a n cap ls _ (h.below b0) hs).mono ?_
  rintro e w1 ⟨rfl, b1⟩
  rw [← Hc.out]
  obtain ⟨cA, fA⟩ := bcell b1
  have r0 := cA w.heap.size 0 (by simp; omega)
  have r1 := cA w.heap.size 1 (by simp; omega)
  have r2 := cA w.heap.size 2 (by simp; omega)
  have x0 := cA (w.heap.size + 1) 0 (by simp)
  have x1 := cA (w.heap.size + 1) 1 (by simp)
  have f0 := fA (w.heap.size + 1) 0 (by simp)
  have f1 := fA (w.heap.size + 1) 1 (by simp)
  clear cA fA
  simp [go_sem] at r0 r1 r2 x0 x1 f0 f1
  have hz := lt_of_cell x0
  have bE := b0.trans (b1.mono b0.size)
  clear b1 b0
  cases hc : (c != 0)
  · have HG : Hid (Ch.leavesFault ls = 0) := by show _ = _; rw [← Hc.out]; simpa using hc
    clear HA
    go_wp2_with fail
    refine (implRow_any rk rv rg _).mono ?_
    rintro e w2 ⟨rfl, b2⟩
    rw [← Hd.out]
    have r0 := keep_cell b2 r0
    have r1 := keep_cell b2 r1
    have r2 := keep_cell b2 r2
    have x0 := keep_cell b2 x0
    have x1 := keep_cell b2 x1
    have f0 := ((bcell b2).2 (w.heap.size + 1) 0 hz).trans f0
    have f1 := ((bcell b2).2 (w.heap.size + 1) 1 hz).trans f1
    have hz := lt_of_cell x0
    have bE := bE.trans (b2.mono bE.size)
    clear b2
    cases hd : (d != 0)
    · have HC' := hid (HC.out hc hd)
      have HD' := hid (HD.out hc hd)
      have HRF : Hid (Ch.rowFault rk rv rg = 0) := by show _ = _; rw [← Hd.out]; simpa using hd
      clear HB HC HD
      by_cases hn0 : n = 0
      · subst hn0
        have HP : Hid (Ch.putR ls ⟨rk, rv, rg⟩ = (0, [[⟨rk, rv, rg⟩]])) := by
          show _ = _
          rw [HD'.out (by rw [Ch.put_nil HL.out.symm]; simp), Ch.put_nil HL.out.symm]
        clear HC' HD'
        have hz' : w.heap.size < w2.heap.size := by omega
        go_wp2
        refine bodyPost_ret (v := .agg #[.int .i64 0, .slice (some ⟨w2.heap.size + 1, 0, none⟩) 1 1]) (by simp [results, Tryz.results48, go_sem, x0, x1, hz, hz']) rfl ⟨some ⟨w2.heap.size + 1, 0, none⟩, 1, 1, by rw [HP.out], ?_, ?_⟩
        · rw [HP.out]
          exact one_put' _ w.heap.size w2.heap.size rk rv rg (by simp [World.setCell]) bE.size
        · have bs := (bE.setCell (p := ⟨w.heap.size + 1, 0, none⟩) (by simp) (.int .i64 0)).setCell (p := ⟨w.heap.size + 1, 1, none⟩) (by simp) (.slice (some ⟨w2.heap.size + 1, 0, none⟩) 1 1)
          exact (bs.alloc bs.size _).alloc (by have := bs.size; simp at this ⊢; omega) _
      · have hg := Ch.good_at HL HG.out
        have hn60 : n ≤ 60 := by have := Ch.good_len HG.out; have := HL.out; omega
        have hnb : ((n : Int) == 0) = false := by simp; omega
        go_wp2_with fail
        refine (cloneLeaves_any a n cap ls _ (h.below bE) hs hg (by omega)).mono ?_
        rintro e w3 ⟨g, c3, rfl, own3, b3⟩
        have r0 := keep_cell b3 r0
        have r1 := keep_cell b3 r1
        have r2 := keep_cell b3 r2
        have x0 := keep_cell b3 x0
        have x1 := keep_cell b3 x1
        have f0 := ((bcell b3).2 (w.heap.size + 1) 0 hz).trans f0
        have f1 := ((bcell b3).2 (w.heap.size + 1) 1 hz).trans f1
        have bE3 := bE.trans (b3.mono bE.size)
        have hzB := hz
        have hz := lt_of_cell x0
        have hBs := b3.size
        obtain ⟨B, hBe⟩ : ∃ B, w2.heap.size = B := ⟨_, rfl⟩
        rw [hBe] at own3 hzB hBs
        have hwB : w.heap.size + 1 < B := hzB
        clear b3 hBe bE
        have HKey : Hid (0 ≤ rk ∧ rk ≤ 99) := Ch.rowFault_key HRF.out
        have hk0 := HKey.out.1
        have hk1 := HKey.out.2
        have HS : Hid (∀ W', Below w3.heap.size w3 W' → W'.cell? ⟨w.heap.size, 0, none⟩ = some (.int .i64 rk)) := fun W' hW => keep_cell hW r0
        obtain ⟨ii, jj, bb, HPl, HX⟩ : ∃ (ii jj : Nat) (bb : Bool), Hid (∀ D, Pl ls D ls.length 0 → Maps.has D (kk rk) = bb ∧ D.atKey (kk rk) (pl 0 0) = pl ii jj) ∧ Hid ((bb = true ∧ ii < ls.length ∧ jj < (ls.getD ii []).length ∧ Ch.keyAt ls ii jj = rk) ∨ (bb = false ∧ Ch.findR ls rk = none)) := by
          cases hfr : Ch.findR ls rk with
          | none => exact ⟨0, 0, false, fun D hD => hD.none hfr, .inr ⟨rfl, rfl⟩⟩
          | some row =>
            obtain ⟨i, j, hi, hj, hr, hk⟩ := Ch.find_some hfr
            have e : Ch.keyAt ls i j = rk := by unfold Ch.keyAt; rw [hr]; exact hk
            refine ⟨i, j, true, fun D hD => ?_, .inl ⟨rfl, hi, hj, e⟩⟩
            have := hD.yes i j (.inl hi) hi hj
            rw [e] at this
            exact ⟨this.1, this.2 _⟩
        go_upto_region 10 with fail
        go_cut [8, 9] (fun s8 s9 wx => ∃ P, s8 = .pointer (some ⟨P, 0, none⟩) ∧ s9 = .bool bb ∧ wx.cell? ⟨P, 0, none⟩ = some (.int .i64 ii) ∧ wx.cell? ⟨P, 1, none⟩ = some (.int .i64 jj) ∧ w3.heap.size ≤ P ∧ Below w3.heap.size w3 wx)
        case first =>
          refine wp_region_noPanic ?_
          refine wp_region_held_drew (S := fun W' => W'.cell? ⟨w.heap.size, 0, none⟩ = some (.int .i64 rk)) (by kernel_rfl) (r0) (fun hH => ?_)
          refine hTake (i := 0) (v := ?_) rfl (by kernel_rfl) (by kernel_rfl) (by kernel_rfl) (by rfl) ?_ hH ?_
          rotate_left
          · intro W hW; (try dsimp only at hW); go_simp <;> with_reducible rfl
          simp only [Act.put, List.setIfInBounds_toArray, List.set_cons_zero, List.set_cons_succ]
          refine hTake (i := 2) (v := ?_) rfl (by kernel_rfl) (by kernel_rfl) (by kernel_rfl) (by rfl) ?_ hH ?_
          rotate_left
          · intro W hW; (try dsimp only at hW); go_simp <;> with_reducible rfl
          simp only [Act.put, List.setIfInBounds_toArray, List.set_cons_zero, List.set_cons_succ]
          refine hTake (i := 3) (v := ?_) rfl (by kernel_rfl) (by kernel_rfl) (by kernel_rfl) (by rfl) ?_ hH ?_
          rotate_left
          · intro W hW; (try dsimp only at hW); go_simp <;> with_reducible rfl
          simp only [Act.put, List.setIfInBounds_toArray, List.set_cons_zero, List.set_cons_succ]
          have bd : Below w3.heap.size w3 w3.drew := (Below.refl _ _).drew
          have zd := bd.size
          generalize w3.drew = w3d at *
          refine wpAnyH_ready (rs := [1, 8]) (by kernel_rfl) (by simp) ?_
          refine AllReadyH.cons rfl (fun K hK => ?_) (AllReadyH.cons rfl (fun K hK => ?_) AllReadyH.nil)
          focus
            go_simp
            refine (places_any a n cap ls w3d (h.below (bE3.trans (bd.mono bE3.size))) HG.out).mono ?_
            rintro e w4 ⟨N, D, rfl, own, hP, b4⟩
            have B4 := bd.trans (b4.mono bd.size)
            have ⟨hh, ha⟩ := HPl.out D hP
            go_wp2_with fail
            refine hK.out _ _ ?_ (fun hH => ?_)
            · exact HS.out _ B4
            clear hK K
            refine wpAnyH_ready (rs := [4, 8]) (by kernel_rfl) (by simp) ?_
            refine AllReadyH.cons rfl (fun K hK => ?_) (AllReadyH.cons rfl (fun K hK => ?_) AllReadyH.nil)
            focus
              refine step_look (.tmp 35) (.tmp 37) _ N D rk ii jj bb rfl rfl rfl rfl own hk0 hk1 hh ha ?_
              refine hK.out _ _ ?_ (fun hH => ?_)
              · exact HS.out _ B4
              clear hK K
              simp only [Act.put, List.setIfInBounds_toArray, List.set_cons_zero, List.set_cons_succ]
              refine hTake (i := 5) (v := ?_) rfl (by kernel_rfl) (by kernel_rfl) (by kernel_rfl) (by rfl) ?_ hH ?_
              rotate_left
              · intro W hW; (try dsimp only at hW); go_simp <;> with_reducible rfl
              simp only [Act.put, List.setIfInBounds_toArray, List.set_cons_zero, List.set_cons_succ]
              refine hTake (i := 6) (v := ?_) rfl (by kernel_rfl) (by kernel_rfl) (by kernel_rfl) (by rfl) ?_ hH ?_
              rotate_left
              · intro W hW; (try dsimp only at hW); go_simp <;> with_reducible rfl
              simp only [Act.put, List.setIfInBounds_toArray, List.set_cons_zero, List.set_cons_succ]
              refine hTake (i := 7) (v := ?_) rfl (by kernel_rfl) (by kernel_rfl) (by kernel_rfl) (by rfl) ?_ hH ?_
              rotate_left
              · intro W hW; (try dsimp only at hW); go_simp <;> with_reducible rfl
              simp only [Act.put, List.setIfInBounds_toArray, List.set_cons_zero, List.set_cons_succ]
              refine wpAnyH_ready (rs := [8]) (by kernel_rfl) (by simp) ?_
              refine AllReadyH.cons rfl (fun K hK => ?_) AllReadyH.nil
              go_simp
              refine hK.out _ _ ?_ (fun hH => ?_)
              · exact HS.out _ (B4.alloc B4.size _)
              clear hK K
              have BA := B4.alloc B4.size (.cells #[.int .i64 0, .int .i64 0] 121)
              have p0 : (w4.alloc (.cells #[.int .i64 0, .int .i64 0] 121)).cell? ⟨w4.heap.size, 0, none⟩ = some (.int .i64 0) := by simp [go_sem]
              have p1 : (w4.alloc (.cells #[.int .i64 0, .int .i64 0] 121)).cell? ⟨w4.heap.size, 1, none⟩ = some (.int .i64 0) := by simp [go_sem]
              have q0 : (w4.alloc (.cells #[.int .i64 0, .int .i64 0] 121)).frozen? ⟨w4.heap.size, 0, none⟩ = false := by simp [go_sem]
              have q1 : (w4.alloc (.cells #[.int .i64 0, .int .i64 0] 121)).frozen? ⟨w4.heap.size, 1, none⟩ = false := by simp [go_sem]
              have zP := B4.size
              generalize (w4.alloc (.cells #[.int .i64 0, .int .i64 0] 121)) = wA at *
              refine wpAnyH_ready (rs := [9]) (by kernel_rfl) (by simp) ?_
              refine AllReadyH.cons rfl (fun K hK => ?_) AllReadyH.nil
              go_simp
              refine hK.out _ _ ?_ (fun hH => ?_)
              · exact HS.out _ ((BA.setCell (p := ⟨w4.heap.size, 0, none⟩) zP _).setCell (p := ⟨w4.heap.size, 1, none⟩) zP _)
              clear hK K
              refine hTake (i := 10) (v := ?_) rfl (by kernel_rfl) (by kernel_rfl) (by kernel_rfl) (by rfl) ?_ hH ?_
              rotate_left
              · intro W hW; (try dsimp only at hW); go_simp <;> with_reducible rfl
              simp only [Act.put, List.setIfInBounds_toArray, List.set_cons_zero, List.set_cons_succ]
              refine wpAnyH_done (by kernel_rfl) ?_ _
              refine NoPanic.normal ?_
              go_wp2_with fail
              go_meet
              exact ⟨w4.heap.size, rfl, rfl, by simp [go_sem, p0, p1], by simp [go_sem, p0, p1], zP, (BA.setCell (p := ⟨w4.heap.size, 0, none⟩) zP _).setCell (p := ⟨w4.heap.size, 1, none⟩) zP _⟩
            focus
              go_simp
              refine hK.out _ _ ?_ (fun hH => ?_)
              · exact HS.out _ (B4.alloc B4.size _)
              clear hK K
              have BA := B4.alloc B4.size (.cells #[.int .i64 0, .int .i64 0] 121)
              have own' := own.alloc (.cells #[.int .i64 0, .int .i64 0] 121)
              have p0 : (w4.alloc (.cells #[.int .i64 0, .int .i64 0] 121)).cell? ⟨w4.heap.size, 0, none⟩ = some (.int .i64 0) := by simp [go_sem]
              have p1 : (w4.alloc (.cells #[.int .i64 0, .int .i64 0] 121)).cell? ⟨w4.heap.size, 1, none⟩ = some (.int .i64 0) := by simp [go_sem]
              have q0 : (w4.alloc (.cells #[.int .i64 0, .int .i64 0] 121)).frozen? ⟨w4.heap.size, 0, none⟩ = false := by simp [go_sem]
              have q1 : (w4.alloc (.cells #[.int .i64 0, .int .i64 0] 121)).frozen? ⟨w4.heap.size, 1, none⟩ = false := by simp [go_sem]
              have zP := B4.size
              generalize (w4.alloc (.cells #[.int .i64 0, .int .i64 0] 121)) = wA at *
              refine wpAnyH_ready (rs := [4]) (by kernel_rfl) (by simp) ?_
              refine AllReadyH.cons rfl (fun K hK => ?_) AllReadyH.nil
              refine step_look (.tmp 35) (.tmp 37) _ N D rk ii jj bb rfl rfl rfl rfl own' hk0 hk1 hh ha ?_
              refine hK.out _ _ ?_ (fun hH => ?_)
              · exact HS.out _ BA
              clear hK K
              simp only [Act.put, List.setIfInBounds_toArray, List.set_cons_zero, List.set_cons_succ]
              refine hTake (i := 5) (v := ?_) rfl (by kernel_rfl) (by kernel_rfl) (by kernel_rfl) (by rfl) ?_ hH ?_
              rotate_left
              · intro W hW; (try dsimp only at hW); go_simp <;> with_reducible rfl
              simp only [Act.put, List.setIfInBounds_toArray, List.set_cons_zero, List.set_cons_succ]
              refine hTake (i := 6) (v := ?_) rfl (by kernel_rfl) (by kernel_rfl) (by kernel_rfl) (by rfl) ?_ hH ?_
              rotate_left
              · intro W hW; (try dsimp only at hW); go_simp <;> with_reducible rfl
              simp only [Act.put, List.setIfInBounds_toArray, List.set_cons_zero, List.set_cons_succ]
              refine hTake (i := 7) (v := ?_) rfl (by kernel_rfl) (by kernel_rfl) (by kernel_rfl) (by rfl) ?_ hH ?_
              rotate_left
              · intro W hW; (try dsimp only at hW); go_simp <;> with_reducible rfl
              simp only [Act.put, List.setIfInBounds_toArray, List.set_cons_zero, List.set_cons_succ]
              refine wpAnyH_ready (rs := [9]) (by kernel_rfl) (by simp) ?_
              refine AllReadyH.cons rfl (fun K hK => ?_) AllReadyH.nil
              go_simp
              refine hK.out _ _ ?_ (fun hH => ?_)
              · exact HS.out _ ((BA.setCell (p := ⟨w4.heap.size, 0, none⟩) zP _).setCell (p := ⟨w4.heap.size, 1, none⟩) zP _)
              clear hK K
              refine hTake (i := 10) (v := ?_) rfl (by kernel_rfl) (by kernel_rfl) (by kernel_rfl) (by rfl) ?_ hH ?_
              rotate_left
              · intro W hW; (try dsimp only at hW); go_simp <;> with_reducible rfl
              simp only [Act.put, List.setIfInBounds_toArray, List.set_cons_zero, List.set_cons_succ]
              refine wpAnyH_done (by kernel_rfl) ?_ _
              refine NoPanic.normal ?_
              go_wp2_with fail
              go_meet
              exact ⟨w4.heap.size, rfl, rfl, by simp [go_sem, p0, p1], by simp [go_sem, p0, p1], zP, (BA.setCell (p := ⟨w4.heap.size, 0, none⟩) zP _).setCell (p := ⟨w4.heap.size, 1, none⟩) zP _⟩
          focus
            go_simp
            refine hK.out _ _ ?_ (fun hH => ?_)
            · exact HS.out _ (bd.alloc bd.size _)
            clear hK K
            have BA := bd.alloc bd.size (.cells #[.int .i64 0, .int .i64 0] 121)
            have p0 : (w3d.alloc (.cells #[.int .i64 0, .int .i64 0] 121)).cell? ⟨w3d.heap.size, 0, none⟩ = some (.int .i64 0) := by simp [go_sem]
            have p1 : (w3d.alloc (.cells #[.int .i64 0, .int .i64 0] 121)).cell? ⟨w3d.heap.size, 1, none⟩ = some (.int .i64 0) := by simp [go_sem]
            have q0 : (w3d.alloc (.cells #[.int .i64 0, .int .i64 0] 121)).frozen? ⟨w3d.heap.size, 0, none⟩ = false := by simp [go_sem]
            have q1 : (w3d.alloc (.cells #[.int .i64 0, .int .i64 0] 121)).frozen? ⟨w3d.heap.size, 1, none⟩ = false := by simp [go_sem]
            generalize (w3d.alloc (.cells #[.int .i64 0, .int .i64 0] 121)) = wA at *
            refine wpAnyH_ready (rs := [1]) (by kernel_rfl) (by simp) ?_
            refine AllReadyH.cons rfl (fun K hK => ?_) AllReadyH.nil
            go_simp
            refine (places_any a n cap ls wA (h.below (bE3.trans (BA.mono bE3.size))) HG.out).mono ?_
            rintro e w4 ⟨N, D, rfl, own, hP, b4⟩
            have B4 := BA.trans (b4.mono BA.size)
            have ⟨hh, ha⟩ := HPl.out D hP
            go_wp2_with fail
            refine hK.out _ _ ?_ (fun hH => ?_)
            · exact HS.out _ B4
            clear hK K
            have lP := lt_of_cell p0
            have q0 := ((bcell b4).2 _ _ lP).trans q0
            have q1 := ((bcell b4).2 _ _ lP).trans q1
            have p0 := keep_cell b4 p0
            have p1 := keep_cell b4 p1
            refine wpAnyH_ready (rs := [4]) (by kernel_rfl) (by simp) ?_
            refine AllReadyH.cons rfl (fun K hK => ?_) AllReadyH.nil
            refine step_look (.tmp 35) (.tmp 37) _ N D rk ii jj bb rfl rfl rfl rfl own hk0 hk1 hh ha ?_
            refine hK.out _ _ ?_ (fun hH => ?_)
            · exact HS.out _ B4
            clear hK K
            simp only [Act.put, List.setIfInBounds_toArray, List.set_cons_zero, List.set_cons_succ]
            refine hTake (i := 5) (v := ?_) rfl (by kernel_rfl) (by kernel_rfl) (by kernel_rfl) (by rfl) ?_ hH ?_
            rotate_left
            · intro W hW; (try dsimp only at hW); go_simp <;> with_reducible rfl
            simp only [Act.put, List.setIfInBounds_toArray, List.set_cons_zero, List.set_cons_succ]
            refine hTake (i := 6) (v := ?_) rfl (by kernel_rfl) (by kernel_rfl) (by kernel_rfl) (by rfl) ?_ hH ?_
            rotate_left
            · intro W hW; (try dsimp only at hW); go_simp <;> with_reducible rfl
            simp only [Act.put, List.setIfInBounds_toArray, List.set_cons_zero, List.set_cons_succ]
            refine hTake (i := 7) (v := ?_) rfl (by kernel_rfl) (by kernel_rfl) (by kernel_rfl) (by rfl) ?_ hH ?_
            rotate_left
            · intro W hW; (try dsimp only at hW); go_simp <;> with_reducible rfl
            simp only [Act.put, List.setIfInBounds_toArray, List.set_cons_zero, List.set_cons_succ]
            refine wpAnyH_ready (rs := [9]) (by kernel_rfl) (by simp) ?_
            refine AllReadyH.cons rfl (fun K hK => ?_) AllReadyH.nil
            go_simp
            refine hK.out _ _ ?_ (fun hH => ?_)
            · exact HS.out _ ((B4.setCell (p := ⟨w3d.heap.size, 0, none⟩) zd _).setCell (p := ⟨w3d.heap.size, 1, none⟩) zd _)
            clear hK K
            refine hTake (i := 10) (v := ?_) rfl (by kernel_rfl) (by kernel_rfl) (by kernel_rfl) (by rfl) ?_ hH ?_
            rotate_left
            · intro W hW; (try dsimp only at hW); go_simp <;> with_reducible rfl
            simp only [Act.put, List.setIfInBounds_toArray, List.set_cons_zero, List.set_cons_succ]
            refine wpAnyH_done (by kernel_rfl) ?_ _
            refine NoPanic.normal ?_
            go_wp2_with fail
            go_meet
            exact ⟨w3d.heap.size, rfl, rfl, by simp [go_sem, p0, p1], by simp [go_sem, p0, p1], zd, (B4.setCell (p := ⟨w3d.heap.size, 0, none⟩) zd _).setCell (p := ⟨w3d.heap.size, 1, none⟩) zd _⟩
        case rest =>
          obtain ⟨w4, hwn⟩ : ∃ x : World, x = wc := ⟨_, rfl⟩
          subst hwn
          obtain ⟨P, rfl, rfl, p0, p1, hP, b4⟩ := hcut
          have r0 := keep_cell b4 r0
          have r1 := keep_cell b4 r1
          have r2 := keep_cell b4 r2
          have x0 := keep_cell b4 x0
          have x1 := keep_cell b4 x1
          have f0 := ((bcell b4).2 (w.heap.size + 1) 0 hz).trans f0
          have f1 := ((bcell b4).2 (w.heap.size + 1) 1 hz).trans f1
          obtain ⟨vs, hV3⟩ := own3.told
          have HLt : Hid (∀ (i : Nat) (x : Value) (q : Nat), vs[i]? = some x → x.ownBlock = some q → q < w3.heap.size) := fun i x q h1 h2 => (hV3.lt i x q h1 h2).2
          have hV : OwnV w4 B (.slice (some ⟨g, 0, none⟩) n c3) n vs ls := ⟨hV3.1, owns_below hV3.2.1 b4, fun i hi => by
            obtain ⟨x, h1, h2⟩ := hV3.2.2.1 i hi
            exact ⟨x, h1, owns_below h2 b4⟩, hV3.2.2.2.1, hV3.2.2.2.2⟩
          have bE4 := bE3.trans (b4.mono bE3.size)
          have hz := lt_of_cell x0
          have hP1 := lt_of_cell p0
          have hB4 : B ≤ w4.heap.size := by have := b4.size; omega
          have hBP : B ≤ P := by omega
          clear b4 own3 bE3 HS HPl hV3
          rcases HX.out with ⟨hbb, hi, hj, hkk⟩ | ⟨hbb, hno⟩
          · subst hbb
            have hin : ii < n := by have := HL.out; omega
            have HPut : Hid (Ch.putR ls ⟨rk, rv, rg⟩ = (0, ls.set ii ((ls.getD ii []).set jj ⟨rk, rv, rg⟩))) := by
              have e := Ch.put_old (r := ⟨rk, rv, rg⟩) HG.out hi hj hkk
              show _ = _
              rw [HD'.out (by rw [e]; simp; have := HL.out; omega), e]
            obtain ⟨b, ai, ci, hbe, hbl, cg, hvk, ho, hwi⟩ := hV.leafAt hin
            simp only [Option.some.injEq, Addr.mk.injEq, and_true] at hbe
            subst hbe
            have hgi0 := hV.2.2.2.2 ii _ g hvk rfl
            have Lg := owns_bounds hV.2.1
            clear HC' HD' HX hkk
            have HW := hid hwi
            clear hwi
            generalize hl : ls.getD ii [] = l at *
            generalize hL : l.length = L at *
            rcases ho.2 with ⟨_, h00⟩ | ⟨gi, cp, cur, hv, _⟩
            · omega
            simp only [Value.slice.injEq, true_and] at hv
            obtain ⟨rfl, rfl⟩ := hv
            have Lgi := owns_bounds ho
            have hgig : gi ≠ g := fun e => hgi0 (by rw [← e]; rfl)
            have hgiP : gi ≠ P := fun e => by
              have := HLt.out ii _ gi hvk rfl
              omega
            have ho1 : w4.drew.ownsRow B 53 3 (.slice (some ⟨gi, 0, none⟩) L ci) L (rcells l) := ho
            have s1 := ho1.stored (jj * 3) (.int .i64 rk)
            have s2 := s1.1.stored (jj * 3 + 1) (.int .i64 rv)
            have s3 := s2.1.stored (jj * 3 + 2) (.bool rg)
            have gr := gr_trans (gr_trans s1.2 s2.2) s3.2
            have e3 := rcells_set l jj ⟨rk, rv, rg⟩ (by omega)
            simp only at e3
            have own5 := s3.1
            rw [e3] at own5
            obtain ⟨bq, oq, heq, q0, q1, q2⟩ := (owns_cells ho1).row (k := jj) (by omega)
            simp only [Option.some.injEq, Addr.mk.injEq, and_true] at heq
            obtain ⟨rfl, rfl⟩ := heq
            simp only [Nat.zero_add] at q0 q1 q2
            have z0 := ho1.frozenAt (jj * 3)
            have z1 := ho1.frozenAt (jj * 3 + 1)
            have z2 := ho1.frozenAt (jj * 3 + 2)
            have hjn : (jj : Nat) < L := by omega
            clear s1 s2 s3 e3
            go_upto_region 12 with fail
            refine wp_region_noPanic ?_
            refine wp_region_held_drew (S := fun W' => W'.cell? ⟨P, 0, none⟩ = some (.int .i64 ii) ∧ W'.cell? ⟨P, 1, none⟩ = some (.int .i64 jj) ∧ W'.cell? ⟨g, ii, none⟩ = some (.slice (some ⟨gi, 0, none⟩) L ci) ∧ W'.cell? ⟨w.heap.size, 0, none⟩ = some (.int .i64 rk) ∧ W'.cell? ⟨w.heap.size, 1, none⟩ = some (.int .i64 rv) ∧ W'.cell? ⟨w.heap.size, 2, none⟩ = some (.bool rg)) (by kernel_rfl) (⟨p0, p1, cg, r0, r1, r2⟩) (fun hH => ?_)
            refine hTake (i := 0) (v := ?_) rfl (by kernel_rfl) (by kernel_rfl) (by kernel_rfl) (by rfl) ?_ hH ?_
            rotate_left
            · intro W hW; (try dsimp only at hW); go_simp <;> with_reducible rfl
            simp only [Act.put, List.setIfInBounds_toArray, List.set_cons_zero, List.set_cons_succ]
            refine hTake (i := 1) (v := ?_) rfl (by kernel_rfl) (by kernel_rfl) (by kernel_rfl) (by rfl) ?_ hH ?_
            rotate_left
            · intro W hW; (try dsimp only at hW); go_simp <;> with_reducible rfl
            simp only [Act.put, List.setIfInBounds_toArray, List.set_cons_zero, List.set_cons_succ]
            refine hTake (i := 2) (v := ?_) rfl (by kernel_rfl) (by kernel_rfl) (by kernel_rfl) (by rfl) ?_ hH ?_
            rotate_left
            · intro W hW; (try dsimp only at hW); go_simp <;> with_reducible rfl
            simp only [Act.put, List.setIfInBounds_toArray, List.set_cons_zero, List.set_cons_succ]
            refine hTake (i := 3) (v := ?_) rfl (by kernel_rfl) (by kernel_rfl) (by kernel_rfl) (by rfl) ?_ hH ?_
            rotate_left
            · intro W hW; (try dsimp only at hW); go_simp <;> with_reducible rfl
            simp only [Act.put, List.setIfInBounds_toArray, List.set_cons_zero, List.set_cons_succ]
            refine hTake (i := 4) (v := ?_) rfl (by kernel_rfl) (by kernel_rfl) (by kernel_rfl) (by rfl) ?_ hH ?_
            rotate_left
            · intro W hW; (try dsimp only at hW); go_simp <;> with_reducible rfl
            simp only [Act.put, List.setIfInBounds_toArray, List.set_cons_zero, List.set_cons_succ]
            refine hTake (i := 5) (v := ?_) rfl (by kernel_rfl) (by kernel_rfl) (by kernel_rfl) (by rfl) ?_ hH ?_
            rotate_left
            · intro W hW; (try dsimp only at hW); go_simp <;> with_reducible rfl
            simp only [Act.put, List.setIfInBounds_toArray, List.set_cons_zero, List.set_cons_succ]
            refine hTake (i := 6) (v := ?_) rfl (by kernel_rfl) (by kernel_rfl) (by kernel_rfl) (by rfl) ?_ hH ?_
            rotate_left
            · intro W hW; (try dsimp only at hW); go_simp <;> with_reducible rfl
            simp only [Act.put, List.setIfInBounds_toArray, List.set_cons_zero, List.set_cons_succ]
            refine hTake (i := 7) (v := ?_) rfl (by kernel_rfl) (by kernel_rfl) (by kernel_rfl) (by rfl) ?_ hH ?_
            rotate_left
            · intro W hW; (try dsimp only at hW); go_simp <;> with_reducible rfl
            simp only [Act.put, List.setIfInBounds_toArray, List.set_cons_zero, List.set_cons_succ]
            refine hTake (i := 8) (v := ?_) rfl (by kernel_rfl) (by kernel_rfl) (by kernel_rfl) (by rfl) ?_ hH ?_
            rotate_left
            · intro W hW; (try dsimp only at hW); go_simp <;> with_reducible rfl
            simp only [Act.put, List.setIfInBounds_toArray, List.set_cons_zero, List.set_cons_succ]
            refine hTake (i := 9) (v := ?_) rfl (by kernel_rfl) (by kernel_rfl) (by kernel_rfl) (by rfl) ?_ hH ?_
            rotate_left
            · intro W hW; (try dsimp only at hW); go_simp <;> with_reducible rfl
            simp only [Act.put, List.setIfInBounds_toArray, List.set_cons_zero, List.set_cons_succ]
            have b4d : Below w4.heap.size w4 w4.drew := (Below.refl _ _).drew
            have hV4 : OwnV w4.drew B (.slice (some ⟨g, 0, none⟩) n c3) n vs ls := hV
            have x0 : w4.drew.cell? ⟨w.heap.size + 1, 0, none⟩ = some (.int .i64 0) := x0
            have x1 : w4.drew.cell? ⟨w.heap.size + 1, 1, none⟩ = some (.slice none 0 0) := x1
            have f0 : w4.drew.frozen? ⟨w.heap.size + 1, 0, none⟩ = false := f0
            have f1 : w4.drew.frozen? ⟨w.heap.size + 1, 1, none⟩ = false := f1
            generalize w4.drew = wd at *
            refine wpAnyH_ready (rs := [10]) (by kernel_rfl) (by simp) ?_
            refine AllReadyH.cons rfl (fun K hK => ?_) AllReadyH.nil
            go_simp
            refine hK.out _ _ ?_ (fun hH => ?_)
            · exact ⟨grown_cell gr hH.1 (by simp; omega), grown_cell gr hH.2.1 (by simp; omega), grown_cell gr hH.2.2.1 (by simp; omega), grown_cell gr hH.2.2.2.1 (by simp; omega), grown_cell gr hH.2.2.2.2.1 (by simp; omega), grown_cell gr hH.2.2.2.2.2 (by simp; omega)⟩
            clear hK K
            refine wpAnyH_done (by kernel_rfl) ?_ _
            refine NoPanic.normal ?_
            clear hH
            have gr5 := gr_chain b4d gr
            have V5 := HW.out _ (l.set jj ⟨rk, rv, rg⟩) gr5 (by simpa using hL) (by rw [List.length_set, hL]; exact own5)
            have hzd : w.heap.size + 1 < wd.heap.size := lt_of_cell x0
            have f0 := (World.grownBy.frozen_far gr ⟨w.heap.size + 1, 0, none⟩ hzd (by simp; omega)).trans f0
            have f1 := (World.grownBy.frozen_far gr ⟨w.heap.size + 1, 1, none⟩ hzd (by simp; omega)).trans f1
            have x0 := grown_cell gr x0 (by simp; omega)
            have x1 := grown_cell gr x1 (by simp; omega)
            have bE5 := bE4.grown gr5 bE4.size (fun k hk => by simp at hk; omega)
            generalize (((wd.setCell ⟨gi, jj * 3, none⟩ (.int .i64 rk)).setCell ⟨gi, jj * 3 + 1, none⟩ (.int .i64 rv)).setCell ⟨gi, jj * 3 + 2, none⟩ (.bool rg)) = w5 at *
            clear own5 gr gr5 hV4 b4d
            go_wp2
            refine bodyPost_ret (v := .agg #[.int .i64 0, .slice (some ⟨g, 0, none⟩) n c3]) (by simp [results, Tryz.results48, go_sem, x0, x1]) rfl ⟨some ⟨g, 0, none⟩, n, c3, by rw [HPut.out], ?_, ?_⟩
            · rw [HPut.out]
              have O5 : OwnLv w5 B (.slice (some ⟨g, 0, none⟩) n c3) n (ls.set ii (l.set jj ⟨rk, rv, rg⟩)) := ⟨V5.1, vs, V5.2.1, V5.2.2.1, V5.2.2.2.1, V5.2.2.2.2⟩
              exact ((O5.box hwB _).box hwB _).base (by omega)
            · exact (bE5.setCell (p := ⟨w.heap.size + 1, 0, none⟩) (by simp) _).setCell (p := ⟨w.heap.size + 1, 1, none⟩) (by simp) _
          · subst hbb
            obtain ⟨p, hp⟩ : ∃ p, p = Ch.forAt ls rk n := ⟨_, rfl⟩
            have hpn : p < n := by rw [hp]; exact Ch.forAt_lt (by omega)
            have hpl : p < ls.length := by have := HL.out; omega
            have HLF : Hid (Ch.leafFor ls rk = (0, (p : Int))) := by
              show _ = _
              have e := HL.out
              have hb : Ch.inB rk 0 99 = true := by unfold Ch.inB; simp; omega
              have ha : Ch.asked ls rk = 0 := by unfold Ch.asked; simp [HG.out, hb]
              unfold Ch.leafFor
              rw [ha, if_neg (by simp), if_neg (by omega), hp, e]
            have HPA : Hid (Ch.put ls ⟨rk, rv, rg⟩ = ls.take p ++ Ch.halves ((ls.getD p []).take (Ch.insAt rk (ls.getD p [])) ++ [⟨rk, rv, rg⟩] ++ (ls.getD p []).drop (Ch.insAt rk (ls.getD p []))) ++ ls.drop (p + 1)) := by
              show _ = _
              refine Ch.put_new (r := ⟨rk, rv, rg⟩) (by omega) (by rw [hp]; have e := HL.out; subst e; rfl) (fun x hx => ?_)
              obtain ⟨j, hj, rfl⟩ := List.getElem_of_mem hx
              have := Ch.find_none hno p j hpl hj
              unfold Ch.keyAt Ch.rowAt at this
              rwa [Ch.getD_get _ _ j hj] at this
            have hl4 := (Ch.allFit_of_page (Ch.good_leaf HG.out p hpl).2).2
            have hl0 := (Ch.good_leaf HG.out p hpl).1
            clear hp hno HX p0 p1
            go_wp2_with fail
            refine (implLeafFor_any a n cap rk ls _ (h.below bE4) hs).mono ?_
            rintro e w5 ⟨he, b5⟩
            have he' : e = .returned (.agg #[.int .i64 0, .int .i64 p]) := by rw [he, HLF.out]
            subst he'
            clear he
            have hfd : ∀ W, (Instr.field 76 (.agg #[.int .i64 0, .int .i64 (p : Int)]) 1).run Tryz.prog W = .ok (.int .i64 (p : Int)) W := fun _ => by kernel_rfl
            have r0 := keep_cell b5 r0
            have r1 := keep_cell b5 r1
            have r2 := keep_cell b5 r2
            have x0 := keep_cell b5 x0
            have x1 := keep_cell b5 x1
            have f0 := ((bcell b5).2 (w.heap.size + 1) 0 hz).trans f0
            have f1 := ((bcell b5).2 (w.heap.size + 1) 1 hz).trans f1
            have hV : OwnV w5 B (.slice (some ⟨g, 0, none⟩) n c3) n vs ls := ⟨hV.1, owns_below hV.2.1 b5, fun i hi => by
              obtain ⟨x, h1, h2⟩ := hV.2.2.1 i hi
              exact ⟨x, h1, owns_below h2 b5⟩, hV.2.2.2.1, hV.2.2.2.2⟩
            have bE5 := bE4.trans (b5.mono bE4.size)
            have hz := lt_of_cell x0
            have hB5 : B ≤ w5.heap.size := by have := b5.size; omega
            clear b5 bE4
            obtain ⟨b, ai, ci, hbe, hbl, cg, hvk, ho, _⟩ := hV.leafAt hpn
            simp only [Option.some.injEq, Addr.mk.injEq, and_true] at hbe
            subst hbe
            have hgi0 := hV.2.2.2.2 p _ g hvk rfl
            have Lg := owns_bounds hV.2.1
            generalize hl : ls.getD p [] = l at *
            generalize hL : l.length = L at *
            rcases ho.2 with ⟨_, h00⟩ | ⟨gi, cp, cur, hv, _⟩
            · omega
            simp only [Value.slice.injEq, true_and] at hv
            obtain ⟨rfl, rfl⟩ := hv
            have Lgi := owns_bounds ho
            have hgig : gi ≠ g := fun e => hgi0 (by rw [← e]; rfl)
            have hngi : some gi ≠ some g := by simpa using hgig
            have hngh : some gi ≠ some w.heap.size := by simp; omega
            have hngx : some gi ≠ some (w.heap.size + 1) := by simp; omega
            generalize hl' : l.take (Ch.insAt rk l) ++ [⟨rk, rv, rg⟩] ++ l.drop (Ch.insAt rk l) = l' at *
            have HM : Hid (l'.length = L + 1) := by
              show _ = _
              rw [← hl']
              have := Ch.insAt_le rk l
              simp
              omega
            have hIns : ∀ W, W.ownsRow B 53 3 (.slice (some ⟨gi, 0, none⟩) L ci) L (rcells l) → B ≤ W.heap.size → Calls Tryz.prog 78 #[.slice (some ⟨gi, 0, none⟩) L ci, .agg #[.int .i64 rk, .int .i64 rv, .bool rg]] W fun e w' => ∃ g' c', e = .returned (.slice (some ⟨g', 0, none⟩) (L + 1) c') ∧ w'.ownsRow B 53 3 (.slice (some ⟨g', 0, none⟩) (L + 1) c') (L + 1) (rcells l') ∧ W.grownBy w' (some gi) ∧ (g' = gi ∨ W.heap.size ≤ g') := fun W hW hBW => by
              rw [← hl']
              exact insertRow_any B gi L ci l rk rv rg W hW (by omega) hBW
            generalize hMe : L + 1 = M at *
            have HMe := hid hMe
            clear hMe
            have HI := hid hIns
            clear hl' hIns
            go_upto_region 15 with fail
            go_cut [10] (fun s wx => s = .int .i64 p ∧ ∃ g6 c6 vs', OwnV wx B (.slice (some ⟨g, 0, none⟩) n c3) n vs' (ls.set p l') ∧ wx.cell? ⟨g, p, none⟩ = some (.slice (some ⟨g6, 0, none⟩) M c6) ∧ wx.cell? ⟨w.heap.size + 1, 0, none⟩ = some (.int .i64 0) ∧ wx.cell? ⟨w.heap.size + 1, 1, none⟩ = some (.slice none 0 0) ∧ wx.frozen? ⟨w.heap.size + 1, 0, none⟩ = false ∧ wx.frozen? ⟨w.heap.size + 1, 1, none⟩ = false ∧ Below w.heap.size w wx ∧ B ≤ wx.heap.size)
            case first =>
              refine wp_region_noPanic ?_
              refine wp_region_held_drew (S := fun _ => True) (by kernel_rfl) trivial (fun hH => ?_)
              refine hTake (i := 0) (v := ?_) rfl (by kernel_rfl) (by kernel_rfl) (by kernel_rfl) (by rfl) ?_ hH ?_
              rotate_left
              · intro W hW; (try dsimp only at hW); go_simp <;> with_reducible rfl
              simp only [Act.put, List.setIfInBounds_toArray, List.set_cons_zero, List.set_cons_succ]
              refine hTake (i := 1) (v := ?_) rfl (by kernel_rfl) (by kernel_rfl) (by kernel_rfl) (by rfl) ?_ hH ?_
              rotate_left
              · intro W hW; (try dsimp only at hW); go_simp <;> with_reducible rfl
              simp only [Act.put, List.setIfInBounds_toArray, List.set_cons_zero, List.set_cons_succ]
              refine hTake (i := 2) (v := ?_) rfl (by kernel_rfl) (by kernel_rfl) (by kernel_rfl) (by rfl) ?_ hH ?_
              rotate_left
              · intro W hW; (try dsimp only at hW); go_simp <;> with_reducible rfl
              simp only [Act.put, List.setIfInBounds_toArray, List.set_cons_zero, List.set_cons_succ]
              refine hTake (i := 3) (v := ?_) rfl (by kernel_rfl) (by kernel_rfl) (by kernel_rfl) (by rfl) ?_ hH ?_
              rotate_left
              · intro W hW; (try dsimp only at hW); go_simp <;> with_reducible rfl
              simp only [Act.put, List.setIfInBounds_toArray, List.set_cons_zero, List.set_cons_succ]
              refine hTake (i := 4) (v := ?_) rfl (by kernel_rfl) (by kernel_rfl) (by kernel_rfl) (by rfl) ?_ hH ?_
              rotate_left
              · intro W hW; (try dsimp only at hW); go_simp <;> with_reducible rfl
              simp only [Act.put, List.setIfInBounds_toArray, List.set_cons_zero, List.set_cons_succ]
              refine hTake (i := 5) (v := ?_) rfl (by kernel_rfl) (by kernel_rfl) (by kernel_rfl) (by rfl) ?_ hH ?_
              rotate_left
              · intro W hW; (try dsimp only at hW); go_simp <;> with_reducible rfl
              simp only [Act.put, List.setIfInBounds_toArray, List.set_cons_zero, List.set_cons_succ]
              have r0 : w5.drew.cell? ⟨w.heap.size, 0, none⟩ = some (.int .i64 rk) := r0
              have r1 : w5.drew.cell? ⟨w.heap.size, 1, none⟩ = some (.int .i64 rv) := r1
              have r2 : w5.drew.cell? ⟨w.heap.size, 2, none⟩ = some (.bool rg) := r2
              have x0 : w5.drew.cell? ⟨w.heap.size + 1, 0, none⟩ = some (.int .i64 0) := x0
              have x1 : w5.drew.cell? ⟨w.heap.size + 1, 1, none⟩ = some (.slice none 0 0) := x1
              have f0 : w5.drew.frozen? ⟨w.heap.size + 1, 0, none⟩ = false := f0
              have f1 : w5.drew.frozen? ⟨w.heap.size + 1, 1, none⟩ = false := f1
              have cg : w5.drew.cell? ⟨g, p, none⟩ = some (.slice (some ⟨gi, 0, none⟩) L ci) := cg
              have hV : OwnV w5.drew B (.slice (some ⟨g, 0, none⟩) n c3) n vs ls := hV
              have ho : w5.drew.ownsRow B 53 3 (.slice (some ⟨gi, 0, none⟩) L ci) L (rcells l) := ho
              have bE5 : Below w.heap.size w w5.drew := bE5.drew
              have hB5 : B ≤ w5.drew.heap.size := hB5
              have hz : w.heap.size + 1 < w5.drew.heap.size := hz
              generalize w5.drew = wd at *
              refine wpAnyH_ready (rs := [6, 7]) (by kernel_rfl) (by simp) ?_
              refine AllReadyH.cons rfl (fun K hK => ?_) (AllReadyH.cons rfl (fun K hK => ?_) AllReadyH.nil)
              focus
                go_simp
                refine hK.out _ _ trivial (fun hH => ?_)
                clear hK K
                refine wpAnyH_ready (rs := [7]) (by kernel_rfl) (by simp) ?_
                refine AllReadyH.cons rfl (fun K hK => ?_) AllReadyH.nil
                go_simp
                refine hK.out _ _ trivial (fun hH => ?_)
                clear hK K
                refine wpAnyH_ready (rs := [8]) (by kernel_rfl) (by simp) ?_
                refine AllReadyH.cons rfl (fun K hK => ?_) AllReadyH.nil
                go_simp
                refine (HI.out wd ho hB5).mono ?_
                rintro e w6 ⟨g6, c6, rfl, own6, gr6, at6⟩
                go_wp2_with fail
                refine hK.out _ _ trivial (fun hH => ?_)
                clear hK K
                refine hTake (i := 9) (v := ?_) rfl (by kernel_rfl) (by kernel_rfl) (by kernel_rfl) (by rfl) ?_ hH ?_
                rotate_left
                · intro W hW; (try dsimp only at hW); go_simp <;> with_reducible rfl
                simp only [Act.put, List.setIfInBounds_toArray, List.set_cons_zero, List.set_cons_succ]
                refine hTake (i := 10) (v := ?_) rfl (by kernel_rfl) (by kernel_rfl) (by kernel_rfl) (by rfl) ?_ hH ?_
                rotate_left
                · intro W hW; (try dsimp only at hW); go_simp <;> with_reducible rfl
                simp only [Act.put, List.setIfInBounds_toArray, List.set_cons_zero, List.set_cons_succ]
                have own6' : w6.ownsRow B 53 3 (.slice (some ⟨g6, 0, none⟩) M c6) l'.length (rcells l') := by rw [HM.out]; exact own6
                have hat : ∀ q, (Value.slice (some ⟨g6, 0, none⟩) M c6).ownBlock = some q → (Value.slice (some ⟨gi, 0, none⟩) L ci).ownBlock = some q ∨ wd.heap.size ≤ q := fun q hq => by
                  simp [Value.ownBlock] at hq
                  subst hq
                  rcases at6 with e | e
                  · exact .inl (by rw [e]; rfl)
                  · exact .inr e
                have V7 := hV.redo (x' := .slice (some ⟨g6, 0, none⟩) M c6) hpn hvk gr6 hat own6'
                have og := owns_grown hV.2.1 gr6 (fun q hq e => by simp [Value.ownBlock] at hq; subst hq; exact hngi e)
                have fg6 := og.frozenAt p
                have gs := (og.stored p (.slice (some ⟨g6, 0, none⟩) M c6)).2
                have cg6 := grown_cell gr6 cg hngi
                have f0 := (World.grownBy.frozen_far gr6 ⟨w.heap.size + 1, 0, none⟩ hz (by simp; omega)).trans f0
                have f1 := (World.grownBy.frozen_far gr6 ⟨w.heap.size + 1, 1, none⟩ hz (by simp; omega)).trans f1
                have x0 := grown_cell gr6 x0 hngx
                have x1 := grown_cell gr6 x1 hngx
                have hz := lt_of_cell x0
                have bE6 := bE5.grown gr6 bE5.size (fun k hk => by simp at hk; omega)
                have bE7 := bE6.grown gs bE6.size (fun k hk => by simp at hk; omega)
                have hB7 : B ≤ (w6.setCell ⟨g, p, none⟩ (.slice (some ⟨g6, 0, none⟩) M c6)).heap.size := by have := gr6.size; have := gs.size; omega
                refine wpAnyH_ready (rs := [11]) (by kernel_rfl) (by simp) ?_
                refine AllReadyH.cons rfl (fun K hK => ?_) AllReadyH.nil
                go_simp
                refine hK.out _ _ trivial (fun hH => ?_)
                clear hK K
                refine wpAnyH_done (by kernel_rfl) ?_ _
                refine NoPanic.normal ?_
                go_wp2_with fail
                go_meet
                exact ⟨rfl, g6, c6, _, V7, by simp [go_sem, cg6], grown_cell gs x0 (by simp; omega), grown_cell gs x1 (by simp; omega), (World.grownBy.frozen_far gs ⟨w.heap.size + 1, 0, none⟩ hz (by simp; omega)).trans f0, (World.grownBy.frozen_far gs ⟨w.heap.size + 1, 1, none⟩ hz (by simp; omega)).trans f1, bE7, hB7⟩
              focus
                go_simp
                refine hK.out _ _ trivial (fun hH => ?_)
                clear hK K
                refine wpAnyH_ready (rs := [6]) (by kernel_rfl) (by simp) ?_
                refine AllReadyH.cons rfl (fun K hK => ?_) AllReadyH.nil
                go_simp
                refine hK.out _ _ trivial (fun hH => ?_)
                clear hK K
                refine wpAnyH_ready (rs := [8]) (by kernel_rfl) (by simp) ?_
                refine AllReadyH.cons rfl (fun K hK => ?_) AllReadyH.nil
                go_simp
                refine (HI.out wd ho hB5).mono ?_
                rintro e w6 ⟨g6, c6, rfl, own6, gr6, at6⟩
                go_wp2_with fail
                refine hK.out _ _ trivial (fun hH => ?_)
                clear hK K
                refine hTake (i := 9) (v := ?_) rfl (by kernel_rfl) (by kernel_rfl) (by kernel_rfl) (by rfl) ?_ hH ?_
                rotate_left
                · intro W hW; (try dsimp only at hW); go_simp <;> with_reducible rfl
                simp only [Act.put, List.setIfInBounds_toArray, List.set_cons_zero, List.set_cons_succ]
                refine hTake (i := 10) (v := ?_) rfl (by kernel_rfl) (by kernel_rfl) (by kernel_rfl) (by rfl) ?_ hH ?_
                rotate_left
                · intro W hW; (try dsimp only at hW); go_simp <;> with_reducible rfl
                simp only [Act.put, List.setIfInBounds_toArray, List.set_cons_zero, List.set_cons_succ]
                have own6' : w6.ownsRow B 53 3 (.slice (some ⟨g6, 0, none⟩) M c6) l'.length (rcells l') := by rw [HM.out]; exact own6
                have hat : ∀ q, (Value.slice (some ⟨g6, 0, none⟩) M c6).ownBlock = some q → (Value.slice (some ⟨gi, 0, none⟩) L ci).ownBlock = some q ∨ wd.heap.size ≤ q := fun q hq => by
                  simp [Value.ownBlock] at hq
                  subst hq
                  rcases at6 with e | e
                  · exact .inl (by rw [e]; rfl)
                  · exact .inr e
                have V7 := hV.redo (x' := .slice (some ⟨g6, 0, none⟩) M c6) hpn hvk gr6 hat own6'
                have og := owns_grown hV.2.1 gr6 (fun q hq e => by simp [Value.ownBlock] at hq; subst hq; exact hngi e)
                have fg6 := og.frozenAt p
                have gs := (og.stored p (.slice (some ⟨g6, 0, none⟩) M c6)).2
                have cg6 := grown_cell gr6 cg hngi
                have f0 := (World.grownBy.frozen_far gr6 ⟨w.heap.size + 1, 0, none⟩ hz (by simp; omega)).trans f0
                have f1 := (World.grownBy.frozen_far gr6 ⟨w.heap.size + 1, 1, none⟩ hz (by simp; omega)).trans f1
                have x0 := grown_cell gr6 x0 hngx
                have x1 := grown_cell gr6 x1 hngx
                have hz := lt_of_cell x0
                have bE6 := bE5.grown gr6 bE5.size (fun k hk => by simp at hk; omega)
                have bE7 := bE6.grown gs bE6.size (fun k hk => by simp at hk; omega)
                have hB7 : B ≤ (w6.setCell ⟨g, p, none⟩ (.slice (some ⟨g6, 0, none⟩) M c6)).heap.size := by have := gr6.size; have := gs.size; omega
                refine wpAnyH_ready (rs := [11]) (by kernel_rfl) (by simp) ?_
                refine AllReadyH.cons rfl (fun K hK => ?_) AllReadyH.nil
                go_simp
                refine hK.out _ _ trivial (fun hH => ?_)
                clear hK K
                refine wpAnyH_done (by kernel_rfl) ?_ _
                refine NoPanic.normal ?_
                go_wp2_with fail
                go_meet
                exact ⟨rfl, g6, c6, _, V7, by simp [go_sem, cg6], grown_cell gs x0 (by simp; omega), grown_cell gs x1 (by simp; omega), (World.grownBy.frozen_far gs ⟨w.heap.size + 1, 0, none⟩ hz (by simp; omega)).trans f0, (World.grownBy.frozen_far gs ⟨w.heap.size + 1, 1, none⟩ hz (by simp; omega)).trans f1, bE7, hB7⟩
            case rest =>
              obtain ⟨w7, hwn⟩ : ∃ x : World, x = wc := ⟨_, rfl⟩
              subst hwn
              obtain ⟨rfl, g6, c6, vs', V7, cg7, x0, x1, f0, f1, bE7, hB7⟩ := hcut
              have hz := lt_of_cell x0
              have O7 : OwnLv w7 B (.slice (some ⟨g, 0, none⟩) n c3) n (ls.set p l') := ⟨V7.1, vs', V7.2.1, V7.2.2.1, V7.2.2.2.1, V7.2.2.2.2⟩
              have hM5 : M ≤ 5 := by have := HMe.out; omega
              have Lg7 := lt_of_cell cg7
              clear V7 HI
              by_cases h4 : M ≤ 4
              · have h4i : (M : Int) ≤ 4 := by omega
                have HPut : Hid (Ch.putR ls ⟨rk, rv, rg⟩ = (0, ls.set p l')) := by
                  have e : Ch.put ls ⟨rk, rv, rg⟩ = ls.set p l' := by
                    rw [HPA.out, Ch.halves, if_pos (by rw [HM.out]; exact h4), List.set_eq_take_append_cons_drop, if_pos hpl]
                    simp
                  show _ = _
                  rw [HD'.out (by rw [e]; simp; have := HL.out; omega), e]
                clear HC' HD' HPA
                go_wp2
                refine bodyPost_ret (v := .agg #[.int .i64 0, .slice (some ⟨g, 0, none⟩) n c3]) (by simp [results, Tryz.results48, go_sem, x0, x1]) rfl ⟨some ⟨g, 0, none⟩, n, c3, by rw [HPut.out], ?_, ?_⟩
                · rw [HPut.out]
                  exact ((O7.box hwB _).box hwB _).base (by omega)
                · exact (bE7.setCell (p := ⟨w.heap.size + 1, 0, none⟩) (by simp) _).setCell (p := ⟨w.heap.size + 1, 1, none⟩) (by simp) _
              · have h4i : ¬ (M : Int) ≤ 4 := by omega
                have HE : Hid (Ch.put ls ⟨rk, rv, rg⟩ = ls.take p ++ [l'.take (M / 2), l'.drop (M / 2)] ++ ls.drop (p + 1)) := by
                  show _ = _
                  rw [HPA.out, Ch.halves, if_neg (by rw [HM.out]; exact h4), HM.out]
                have HLen : Hid ((Ch.put ls ⟨rk, rv, rg⟩).length = n + 1) := by
                  show _ = _
                  rw [HE.out]
                  have := HL.out
                  simp
                  omega
                by_cases h60 : n = 60
                · have hni : ((n : Int) == 60) = true := by simp; omega
                  have HPut := hid (HC'.out (by rw [HLen.out]; omega))
                  clear HC' HD' HPA HE HLen h60
                  go_wp2
                  refine bodyPost_ret (v := .agg #[.int .i64 2, .slice none 0 0]) (by simp [results, Tryz.results48, go_sem, x0, x1]) rfl ⟨none, 0, 0, by rw [HPut.out], by rw [HPut.out]; exact OwnLv.nil _ _, ?_⟩
                  exact (bE7.setCell (p := ⟨w.heap.size + 1, 0, none⟩) (by simp) _).setCell (p := ⟨w.heap.size + 1, 1, none⟩) (by simp) _
                · have hni : ((n : Int) == 60) = false := by simp; omega
                  have HPut := hid (HD'.out (by rw [HLen.out]; omega))
                  have hgd : (ls.set p l').getD p [] = l' := by simp [List.getD, hpl]
                  have htk : (ls.set p l').take p = ls.take p := by rw [List.take_set, List.set_eq_of_length_le (by simp; omega)]
                  have hdk : (ls.set p l').drop (p + 1) = ls.drop (p + 1) := by rw [List.drop_set, if_pos (by omega)]
                  have HML := HM.out
                  have hSp := splitLeaf_any B g n c3 p (ls.set p l') w7 O7 hpn (by omega) hB7 (by rw [hgd, HML]; omega) (by rw [hgd, HML]; omega)
                  rw [hgd, htk, hdk, HML, ← HE.out] at hSp
                  clear HC' HD' HPA HE HML hgd htk hdk
                  go_wp2_with fail
                  refine hSp.mono ?_
                  rintro e w8 ⟨g8, c8, rfl, own8, b8⟩
                  have x0 := (b8.cell (p := ⟨w.heap.size + 1, 0, none⟩) hwB).trans x0
                  have x1 := (b8.cell (p := ⟨w.heap.size + 1, 1, none⟩) hwB).trans x1
                  have f0 := (b8.frozen (p := ⟨w.heap.size + 1, 0, none⟩) hwB).trans f0
                  have f1 := (b8.frozen (p := ⟨w.heap.size + 1, 1, none⟩) hwB).trans f1
                  have bE8 := bE7.trans (b8.mono (by omega))
                  go_wp2
                  refine bodyPost_ret (v := .agg #[.int .i64 0, .slice (some ⟨g8, 0, none⟩) (n + 1) c8]) (by simp [results, Tryz.results48, go_sem, x0, x1]) rfl ⟨some ⟨g8, 0, none⟩, n + 1, c8, by rw [HPut.out], ?_, ?_⟩
                  · rw [HPut.out]
                    exact ((own8.box hwB _).box hwB _).base (by omega)
                  · exact (bE8.setCell (p := ⟨w.heap.size + 1, 0, none⟩) (by simp) _).setCell (p := ⟨w.heap.size + 1, 1, none⟩) (by simp) _
    · have HR := hid (HB.out hc hd)
      clear HB HC HD
      go_wp2
      refine bodyPost_ret (v := .agg #[.int .i64 d, .slice none 0 0]) (by simp [results, Tryz.results48, go_sem, x0, x1]) rfl ⟨none, 0, 0, by rw [HR.out], by rw [HR.out]; exact OwnLv.nil _ _, ?_⟩
      exact (bE.setCell (p := ⟨w.heap.size + 1, 0, none⟩) (by simp) _).setCell (p := ⟨w.heap.size + 1, 1, none⟩) (by simp) _
  · have HR := hid (HA.out hc)
    clear HA HB HC HD
    go_wp2
    refine bodyPost_ret (v := .agg #[.int .i64 c, .slice none 0 0]) (by simp [results, Tryz.results48, go_sem, x0, x1]) rfl ⟨none, 0, 0, by rw [HR.out], by rw [HR.out]; exact OwnLv.nil _ _, ?_⟩
    exact (bE.setCell (p := ⟨w.heap.size + 1, 0, none⟩) (by simp) _).setCell (p := ⟨w.heap.size + 1, 1, none⟩) (by simp) _
end Go.Proofs.YthfanfnbjldddaaGreat


/- The law FnExactDropRow. -/
namespace Go.Proofs.YthfanfnbjldddaaGreat
open Go.RowKit

theorem Ch.sum_sub {a b : List (List Ch.Row)} (h : List.Sublist a b) : (a.map List.length).sum ≤ (b.map List.length).sum := by
  induction h with
  | slnil => simp
  | cons x _ ih => simp only [List.map_cons, List.sum_cons]; omega
  | cons_cons x _ ih => simp only [List.map_cons, List.sum_cons]; omega
theorem Ch.map_filter_sum (p : Ch.Row → Bool) (ls : List (List Ch.Row)) : ((ls.map (List.filter p)).map List.length).sum ≤ (ls.map List.length).sum := by
  induction ls with
  | nil => simp
  | cons l ls ih =>
    simp only [List.map_cons, List.sum_cons]
    have := List.length_filter_le p l
    omega
theorem Ch.dropR_small {ls : List (List Ch.Row)} (hs : Ch.lvSize ls ≤ 1048576) (key : Int) : Ch.lvSize (Ch.dropR ls key).2 ≤ 1048576 := by
  have h0 : Ch.lvSize ([] : List (List Ch.Row)) ≤ 1048576 := by decide
  unfold Ch.dropR
  by_cases h1 : (Ch.asked ls key != 0) = true
  · rw [if_pos h1]; exact h0
  · rw [if_neg h1]
    cases Ch.findR ls key with
    | none => exact h0
    | some r =>
      show Ch.lvSize (Ch.drop ls key) ≤ 1048576
      have hsub := List.filter_sublist (p := Ch.full) (l := ls.map (List.filter (Ch.notK key)))
      have e1 := Ch.sum_sub hsub
      have e2 := Ch.map_filter_sum (Ch.notK key) ls
      have e3 := hsub.length_le
      unfold Ch.lvSize Ch.drop at *
      simp only [List.length_map] at e3
      omega
theorem small_marks {ls : List (List Ch.Row)} (h : ∀ i, (ls.getD i []).length ≤ 9223372036854775807) : ∀ i, ((lvMarks ls).getD i []).length ≤ 9223372036854775807 := by
  intro i
  by_cases hi : i < ls.length
  · rw [lvMarks_at ls i hi, lvMark_len]; exact h i
  · simp [List.getD, List.getElem?_eq_none (show (lvMarks ls).length ≤ i by rw [lvMarks_len]; omega)]

end Go.Proofs.YthfanfnbjldddaaGreat


/- The law FnExactPutRow. -/
namespace Go.Proofs.YthfanfnbjldddaaGreat
open Go.RowKit

theorem Ch.putR_small {ls : List (List Ch.Row)} (r : Ch.Row) : Ch.lvSize (Ch.putR ls r).2 ≤ 1048576 := by
  unfold Ch.putR
  split
  · simp [Ch.lvSize]
  · split
    · simp [Ch.lvSize]
    · split
      · simp [Ch.lvSize]
      · rename_i h _ _
        exact Ch.put_size (by simpa using h)
theorem OwnV.base {w : World} {B B' n : Nat} {v : Value} {vs : List Value} {ls : List (List Ch.Row)} (h : OwnV w B v n vs ls) (hb : B' ≤ B) : OwnV w B' v n vs ls := by
  obtain ⟨hl, ho, hi, hd, hd'⟩ := h
  refine ⟨hl, owns_base ho hb, fun i hlt => ?_, hd, hd'⟩
  obtain ⟨x, h1, h2⟩ := hi i hlt
  exact ⟨x, h1, owns_base h2 hb⟩
theorem OwnV.store {w : World} {B n : Nat} {v : Value} {vs : List Value} {ls : List (List Ch.Row)} (h : OwnV w B v n vs ls) {p o : Nat} {u : Value} (hv : ∀ g, v.ownBlock = some g → g ≠ p) (hx : ∀ (i : Nat) (x : Value) (g : Nat), vs[i]? = some x → x.ownBlock = some g → g ≠ p) : OwnV (w.setCell ⟨p, o, none⟩ u) B v n vs ls := by
  obtain ⟨hl, ho, hi, hd, hd'⟩ := h
  refine ⟨hl, owns_set ho hv u, fun i hlt => ?_, hd, hd'⟩
  obtain ⟨x, h1, h2⟩ := hi i hlt
  exact ⟨x, h1, owns_set h2 (fun g hg => hx i x g h1 hg) u⟩
/-- A result of leaves in its box: P; its lists lie from lo to hi. -/
def PutAt (wx W0 : World) (P : Nat) (c : Int) (a2 : Option Addr) (m2 c2 : Nat) (vs2 : List Value) (rs : List (List Ch.Row)) (lo hi : Nat) : Prop :=
  W0.heap.size ≤ P ∧ P < wx.heap.size ∧ W0.heap.size ≤ lo ∧ hi ≤ wx.heap.size ∧ (P < lo ∨ hi ≤ P) ∧ wx.cell? ⟨P, 0, none⟩ = some (.int .i64 c) ∧ wx.cell? ⟨P, 1, none⟩ = some (.slice a2 m2 c2) ∧ OwnV wx W0.heap.size (.slice a2 m2 c2) m2 vs2 rs ∧
    (∀ g, (Value.slice a2 m2 c2).ownBlock = some g → lo ≤ g ∧ g < hi) ∧ (∀ (i : Nat) (x : Value) (g : Nat), vs2[i]? = some x → x.ownBlock = some g → lo ≤ g ∧ g < hi) ∧ Below W0.heap.size W0 wx

end Go.Proofs.YthfanfnbjldddaaGreat


/- Records in memory: seven cells each; compared, marked from any number on. -/
namespace Go.Proofs.YthfanfnbjldddaaGreat
open Go.RowKit

/-- Records as values: seven cells each. -/
def c7 (r : Ch.Rec) : List Value := [.int .i64 r.kd, .int .i64 r.tx, .int .i64 r.ky, .bool r.hd, .int .i64 r.ol, .bool r.hs, .int .i64 r.nw]

def rc7 (rs : List Ch.Rec) : List Value := rs.flatMap c7

theorem rc7_len (rs : List Ch.Rec) : (rc7 rs).length = rs.length * 7 := by
  induction rs with
  | nil => rfl
  | cons r rs ih => simp only [rc7, c7, List.flatMap_cons, List.length_append, List.length_cons, List.length_nil] at *; omega

theorem rc7_snoc (rs : List Ch.Rec) (r : Ch.Rec) : rc7 (rs ++ [r]) = rc7 rs ++ c7 r := by simp [rc7]

theorem rc7_at (rs : List Ch.Rec) (k j : Nat) (h : k < rs.length) (hj : j < 7) : (rc7 rs)[k * 7 + j]? = (c7 (rs.getD k Ch.Rec.zero))[j]? := by
  induction rs generalizing k with
  | nil => simp at h
  | cons r rs ih =>
    cases k with
    | zero =>
      simp only [rc7, List.flatMap_cons, Nat.zero_mul, Nat.zero_add]
      rw [List.getElem?_append_left (by simp [c7]; omega)]
      rfl
    | succ k =>
      have := ih k (by simpa using h)
      simp only [rc7, List.flatMap_cons] at *
      rw [List.getElem?_append_right (by simp [c7]; omega)]
      rw [show (k + 1) * 7 + j - (c7 r).length = k * 7 + j by simp [c7]; omega]
      simpa using this

theorem CellsAt.len7 {w : World} {a : Option Addr} {n : Nat} {rs : List Ch.Rec} (h : CellsAt w a (n * 7) (rc7 rs)) : Hid (n = rs.length) := by
  have := h.1
  rw [rc7_len] at this
  show _ = _
  omega

/-- A record's seven cells. -/
def At7 (w : World) (b o : Nat) (r : Ch.Rec) : Prop := w.cell? ⟨b, o, none⟩ = some (.int .i64 r.kd) ∧ w.cell? ⟨b, o + 1, none⟩ = some (.int .i64 r.tx) ∧ w.cell? ⟨b, o + 2, none⟩ = some (.int .i64 r.ky) ∧ w.cell? ⟨b, o + 3, none⟩ = some (.bool r.hd) ∧ w.cell? ⟨b, o + 4, none⟩ = some (.int .i64 r.ol) ∧ w.cell? ⟨b, o + 5, none⟩ = some (.bool r.hs) ∧ w.cell? ⟨b, o + 6, none⟩ = some (.int .i64 r.nw)

theorem CellsAt.rec {w : World} {a : Option Addr} {n : Nat} {rs : List Ch.Rec} (h : CellsAt w a (n * 7) (rc7 rs)) {k : Nat} (hk : k < n) :
    ∃ b off, a = some ⟨b, off, none⟩ ∧ At7 w b (off + k * 7) (rs.getD k Ch.Rec.zero) := by
  obtain ⟨b, off, ha, hc⟩ := h.2 (by omega)
  have hl := h.len7.out
  have key : ∀ j, j < 7 → w.cell? ⟨b, off + k * 7 + j, none⟩ = (c7 (rs.getD k Ch.Rec.zero))[j]? := fun j hj => by
    rw [Nat.add_assoc, hc _ (by omega), rc7_at rs k j (by omega) hj]
  exact ⟨b, off, ha, key 0 (by omega), key 1 (by omega), key 2 (by omega), key 3 (by omega), key 4 (by omega), key 5 (by omega), key 6 (by omega)⟩

theorem rc7_set (rs : List Ch.Rec) (k : Nat) (r : Ch.Rec) (h : k < rs.length) :
    ((((((((rc7 rs).set (k * 7) (.int .i64 r.kd)).set (k * 7 + 1) (.int .i64 r.tx)).set (k * 7 + 2) (.int .i64 r.ky)).set (k * 7 + 3) (.bool r.hd)).set (k * 7 + 4) (.int .i64 r.ol)).set (k * 7 + 5) (.bool r.hs)).set (k * 7 + 6) (.int .i64 r.nw)) = rc7 (rs.set k r) := by
  induction rs generalizing k with
  | nil => simp at h
  | cons q rs ih =>
    cases k with
    | zero => simp [rc7, c7]
    | succ k =>
      have := ih k (by simpa using h)
      simp only [rc7, c7, List.flatMap_cons, List.set_cons_succ] at *
      rw [← this, show (k + 1) * 7 = k * 7 + 1 + 1 + 1 + 1 + 1 + 1 + 1 by omega]
      simp

theorem owns_stored7 {w : World} {base : Nat} {e : TypeId} {size g n cap : Nat} {xs : List Value} (h : w.ownsRow base e size (.slice (some ⟨g, 0, none⟩) n cap) n xs) (j : Nat) (v0 v1 v2 v3 v4 v5 v6 : Value) :
    (((((((w.setCell ⟨g, j, none⟩ v0).setCell ⟨g, j + 1, none⟩ v1).setCell ⟨g, j + 2, none⟩ v2).setCell ⟨g, j + 3, none⟩ v3).setCell ⟨g, j + 4, none⟩ v4).setCell ⟨g, j + 5, none⟩ v5).setCell ⟨g, j + 6, none⟩ v6).ownsRow base e size (.slice (some ⟨g, 0, none⟩) n cap) n (((((((xs.set j v0).set (j + 1) v1).set (j + 2) v2).set (j + 3) v3).set (j + 4) v4).set (j + 5) v5).set (j + 6) v6) ∧
    w.grownBy (((((((w.setCell ⟨g, j, none⟩ v0).setCell ⟨g, j + 1, none⟩ v1).setCell ⟨g, j + 2, none⟩ v2).setCell ⟨g, j + 3, none⟩ v3).setCell ⟨g, j + 4, none⟩ v4).setCell ⟨g, j + 5, none⟩ v5).setCell ⟨g, j + 6, none⟩ v6) (some g) := by
  have s0 := h.stored j v0
  have s1 := s0.1.stored (j + 1) v1
  have s2 := s1.1.stored (j + 2) v2
  have s3 := s2.1.stored (j + 3) v3
  have s4 := s3.1.stored (j + 4) v4
  have s5 := s4.1.stored (j + 5) v5
  have s6 := s5.1.stored (j + 6) v6
  exact ⟨s6.1, gr_trans (gr_trans (gr_trans (gr_trans (gr_trans (gr_trans s0.2 s1.2) s2.2) s3.2) s4.2) s5.2) s6.2⟩

/-- The marks that a law writes into records. -/
def mark7 (s : Int) (k : Nat) : Ch.Rec := ⟨s + 7 * (k : Int), s + 7 * (k : Int) + 1, s + 7 * (k : Int) + 1 + 1, (s + 7 * (k : Int) + 1 + 1 + 1) % 3 == 0, s + 7 * (k : Int) + 1 + 1 + 1 + 1, (s + 7 * (k : Int) + 1 + 1 + 1 + 1 + 1) % 3 == 0, s + 7 * (k : Int) + 1 + 1 + 1 + 1 + 1 + 1⟩

def marks7 (s : Int) (n : Nat) : List Ch.Rec := (List.range n).map (mark7 s)

theorem marks7_len (s : Int) (n : Nat) : (marks7 s n).length = n := by simp [marks7]

theorem marks7_snoc (s : Int) (n : Nat) : marks7 s (n + 1) = marks7 s n ++ [mark7 s n] := by simp [marks7, List.range_succ]

theorem marks7_at (s : Int) (n k : Nat) (h : k < n) : (marks7 s n).getD k Ch.Rec.zero = mark7 s k := by simp [marks7, List.getD, h]

def marked7 (s : Int) (rs : List Ch.Rec) (k : Nat) : List Ch.Rec := marks7 s k ++ rs.drop k

theorem marked7_set (s : Int) (rs : List Ch.Rec) (k : Nat) (h : k < rs.length) :
    (((((((rc7 (marked7 s rs k)).set (k * 7) (.int .i64 (s + 7 * (k : Int)))).set (k * 7 + 1) (.int .i64 (s + 7 * (k : Int) + 1))).set (k * 7 + 2) (.int .i64 (s + 7 * (k : Int) + 1 + 1))).set (k * 7 + 3) (.bool ((s + 7 * (k : Int) + 1 + 1 + 1) % 3 == 0))).set (k * 7 + 4) (.int .i64 (s + 7 * (k : Int) + 1 + 1 + 1 + 1))).set (k * 7 + 5) (.bool ((s + 7 * (k : Int) + 1 + 1 + 1 + 1 + 1) % 3 == 0))).set (k * 7 + 6) (.int .i64 (s + 7 * (k : Int) + 1 + 1 + 1 + 1 + 1 + 1)) = rc7 (marked7 s rs (k + 1)) := by
  have := rc7_set (marked7 s rs k) k (mark7 s k) (by simp [marked7, marks7_len]; omega)
  rw [show rc7 (marked7 s rs (k + 1)) = rc7 ((marked7 s rs k).set k (mark7 s k)) by unfold marked7; rw [Ch.set_mid _ _ _ _ (marks7_len s k) h, marks7_snoc], ← this]
  rfl

end Go.Proofs.YthfanfnbjldddaaGreat


/- Walks of the functions on one record: its copy, its fault (of the program and of the model). -/
namespace Go.Proofs.YthfanfnbjldddaaGreat
open Go.RowKit

theorem l2Txn_any (v : Int) (w : World) :
    Calls Tryz.prog 26 #[.int .i64 v] w fun e w' => e = .returned (.bool (Ch.inB v 1 999)) ∧ w' = w := by
  go_enter Tryz.func26, Tryz.ntmps26
  go_wp2_with (go_at_call 55; refine (in_any _ _ _ _).mono ?_; rintro e w' ⟨rfl, rfl⟩)
  go_ret
  exact ⟨rfl, rfl⟩

theorem isTxn_any (v : Int) (w : World) :
    Calls Tryz.prog 46 #[.int .i64 v] w fun e w' => e = .returned (.bool (Ch.inB v 1 999)) ∧ w' = w := by
  unfold Ch.inB
  by_cases h1 : 1 ≤ v
  all_goals by_cases h2 : v ≤ 999
  all_goals
    go_enter Tryz.func46, Tryz.ntmps46
    go_wp2
    go_ret
    exact ⟨by simp [h1, h2], rfl⟩

end Go.Proofs.YthfanfnbjldddaaGreat


/- Leaves that are none, copied. -/
namespace Go.Proofs.YthfanfnbjldddaaGreat
open Go.RowKit

theorem wpList_app0 {ops : Array Oper} {rest : List Oper} {o : Oper} {a : Act} {w : World} {Q : Exit → Act → World → Prop} (s x : Operand)
    (B : Nat) (v : Value) (n : Nat) (xs : List Value) (ad : Addr) (c : Nat) (hn : n ≤ 2097152)
    (ho : o.op = .call { callee := .builtin .append, args := #[s, x], argTypes := #[24, 24] }) (hgd : o.guard = none)
    (hs : a.eval s = v) (hx : a.eval x = .slice (some ad) 0 c) (hown : w.ownsRow B 80 1 v n xs) (hbase : B ≤ w.heap.size)
    (hK : ∀ a' c' w', w'.ownsRow B 80 1 (.slice a' n c') n xs → w.grownBy w' v.ownBlock → wpList Tryz.prog ops Q rest (a.put o.dst (.slice a' n c')) w') :
    wpList Tryz.prog ops Q (o :: rest) a w := by
  obtain ⟨i0, hi, hz0, hz1, hz2⟩ := info_parts Tryz.info80
  obtain ⟨v', w', hr, h2, h3, _, h5⟩ := run_append_own_at (P := Tryz.prog) w B 24 o.type 80 i0 _ 1 24 Tryz.underlying24 hi hz0 hz1 hz2 rfl (by omega) v n xs hown ad 0 c [] rfl (fun j u hj => by simp at hj) (fun u hu => by cases hu) (by unfold maxLen; omega) (by omega) hbase
  obtain ⟨a', c', rfl⟩ := owns_shape h2
  rw [List.append_nil] at h2
  exact Lib.wpList_append_run w hgd s x 24 24 ho _ _ hs hx _ _ hr (hK a' c' w' h2 h3)

set_option maxHeartbeats 400000 in
theorem cloneLeaf0_any (a : Option Addr) (cap : Nat) (w : World) :
    Calls Tryz.prog 80 #[.slice a 0 cap] w fun e w' => ∃ a' c', e = .returned (.slice a' 0 c') ∧ w'.ownsRow w.heap.size 80 1 (.slice a' 0 c') 0 [] ∧ Below w.heap.size w w' := by
  have hnil := fun W => Lib.run_eql_slice_nil (P := Tryz.prog) W 24 80 a 0 cap 0 0 Tryz.underlying24
  cases a with
  | none =>
    simp only [Option.isNone_none] at hnil
    go_enter Tryz.func80, Tryz.ntmps80
    go_wp2
    go_ret
    exact ⟨none, 0, rfl, World.ownsRow_nil _ _ _ _, Below.refl _ _⟩
  | some ad =>
    simp only [Option.isNone_some] at hnil
    have hb0 : Below w.heap.size w (w.alloc (.cells #[] 80)) := (Below.refl _ _).alloc (Nat.le_refl _) _
    have ho := empty_leaves w w.heap.size (Nat.le_refl _)
    go_enter Tryz.func80, Tryz.ntmps80
    go_wp2_with (at_builtin; go_must (refine wpList_app0 (.tmp 5) (.tmp 6) w.heap.size (.slice (some ⟨w.heap.size, 0, none⟩) 0 0) 0 [] ad cap (by omega) ?_ ?_ ?_ ?_ ho ?_ ?_; exact rfl; exact rfl; exact rfl; exact rfl; (focus (simp; done)); intro a1 c1 w1 own1 gr1))
    go_ret
    exact ⟨a1, c1, rfl, own1, hb0.grown gr1 (by simp) (fun k hk => by simp [Value.ownBlock] at hk; omega)⟩

set_option maxHeartbeats 800000 in
theorem cloneLeavesAll_any (a : Option Addr) (n cap : Nat) (ls : List (List Ch.Row)) (w : World) (h : LvAt w a n ls) (hs : Ch.lvSize ls ≤ 1048576) (hg : ∀ k, k < n → (ls.getD k []).length ≠ 0) :
    Calls Tryz.prog 50 #[.slice a n cap] w fun e w' => ∃ a' c', e = .returned (.slice a' n c') ∧ OwnLv w' w.heap.size (.slice a' n c') n ls ∧ Below w.heap.size w w' := by
  by_cases hn0 : 0 < n
  · refine (cloneLeaves_any a n cap ls w h hs hg hn0).mono ?_
    rintro e w1 ⟨g, c', rfl, o1, b1⟩
    exact ⟨_, c', rfl, o1, b1⟩
  · obtain rfl : n = 0 := by omega
    have hl : ls = [] := List.eq_nil_of_length_eq_zero h.len.out.symm
    subst hl
    go_enter Tryz.func50, Tryz.ntmps50
    go_wp2_with fail
    refine (cloneLeaf0_any a cap _).mono ?_
    rintro e w1 ⟨a1, c1, rfl, o1, b1⟩
    go_wp2
    go_loopw [10] (fun i wr => i = .int .i64 0 ∧ wr = w1) (fun _ _ => 0)
    case atStart => exact ⟨rfl, rfl⟩
    case round =>
      obtain ⟨rfl, rfl⟩ := hrel
      go_wp2
      go_ret
      exact ⟨a1, c1, rfl, ⟨rfl, [], o1, fun i hi => absurd hi (by omega), fun i j x y g _ hx => by simp at hx, fun i x g hx => by simp at hx⟩, b1⟩
end Go.Proofs.YthfanfnbjldddaaGreat


/- SetValue of the program. -/
namespace Go.Proofs.YthfanfnbjldddaaGreat
open Go.RowKit

/-- Leaves and records, apart: the leaves lie from lo to hi, the records don't. -/
def OwnU (w : World) (B : Nat) (lv : Value) (m : Nat) (ls : List (List Ch.Row)) (rv : Value) (p : Nat) (rs : List Ch.Rec) : Prop :=
  ∃ vs lo hi, OwnV w B lv m vs ls ∧ w.ownsRow B 63 7 rv p (rc7 rs) ∧ B ≤ lo ∧ hi ≤ w.heap.size ∧ (∀ g, lv.ownBlock = some g → lo ≤ g ∧ g < hi) ∧ (∀ (i : Nat) (x : Value) (g : Nat), vs[i]? = some x → x.ownBlock = some g → lo ≤ g ∧ g < hi) ∧ (∀ g, rv.ownBlock = some g → g < lo ∨ hi ≤ g)
theorem OwnU.below {w w' : World} {B m p : Nat} {lv rv : Value} {ls : List (List Ch.Row)} {rs : List Ch.Rec} (h : OwnU w B lv m ls rv p rs) (hb : Below w.heap.size w w') : OwnU w' B lv m ls rv p rs := by
  obtain ⟨vs, lo, hi, h1, h2, h3, h4, h5⟩ := h
  exact ⟨vs, lo, hi, h1.below hb, owns_below h2 hb, h3, Nat.le_trans h4 hb.size, h5⟩
theorem OwnU.base {w : World} {B B' m p : Nat} {lv rv : Value} {ls : List (List Ch.Row)} {rs : List Ch.Rec} (h : OwnU w B lv m ls rv p rs) (hb : B' ≤ B) : OwnU w B' lv m ls rv p rs := by
  obtain ⟨vs, lo, hi, h1, h2, h3, h4, h5⟩ := h
  exact ⟨vs, lo, hi, h1.base hb, owns_base h2 hb, Nat.le_trans hb h3, h4, h5⟩
theorem OwnU.none (w : World) (B : Nat) : OwnU w B (.slice none 0 0) 0 [] (.slice none 0 0) 0 [] := by
  refine ⟨[], B, 0, ⟨rfl, World.ownsRow_nil _ _ _ _, fun i hi => absurd hi (by omega), fun i j x y g _ hx => by simp at hx, fun i x g hx => by simp at hx⟩, World.ownsRow_nil _ _ _ _, Nat.le_refl _, Nat.zero_le _, fun g hg => by simp [Value.ownBlock] at hg, fun i x g hx => by simp at hx, fun g hg => by simp [Value.ownBlock] at hg⟩
theorem OwnU.len {w : World} {B m p : Nat} {lv rv : Value} {ls : List (List Ch.Row)} {rs : List Ch.Rec} (h : OwnU w B lv m ls rv p rs) : m = ls.length ∧ p = rs.length := by
  obtain ⟨vs, lo, hi, h1, h2, _⟩ := h
  refine ⟨h1.1.symm, ?_⟩
  have := h2.1
  rw [rc7_len] at this
  omega
theorem OwnU.lv {w : World} {B m p cap : Nat} {a : Option Addr} {rv : Value} {ls : List (List Ch.Row)} {rs : List Ch.Rec} (h : OwnU w B (.slice a m cap) m ls rv p rs) (hs : Ch.lvSize ls ≤ 1048576) : LvAt w a m ls := by
  obtain ⟨vs, lo, hi, h1, _⟩ := h
  exact h1.own.at (small_at hs)
theorem OwnU.rc {w : World} {B m p q : Nat} {r : Option Addr} {lv : Value} {ls : List (List Ch.Row)} {rs : List Ch.Rec} (h : OwnU w B lv m ls (.slice r p q) p rs) : CellsAt w r (p * 7) (rc7 rs) := by
  obtain ⟨vs, lo, hi, _, h2, _⟩ := h
  exact owns_cells h2
/-- One record that was just made, behind the leaves. -/
theorem own_rec {W : World} {B H : Nat} (r : Ch.Rec) (hH : H = W.heap.size) (hB : B ≤ W.heap.size) : (W.alloc (.cells #[.int .i64 r.kd, .int .i64 r.tx, .int .i64 r.ky, .bool r.hd, .int .i64 r.ol, .bool r.hs, .int .i64 r.nw] 63)).ownsRow B 63 7 (.slice (some ⟨H, 0, none⟩) 1 1) 1 (rc7 [r]) := by
  subst hH
  exact World.ownsRow_lit W #[.int .i64 r.kd, .int .i64 r.tx, .int .i64 r.ky, .bool r.hd, .int .i64 r.ol, .bool r.hs, .int .i64 r.nw] 1 hB (by unfold maxLen; omega) rfl
theorem OwnV.apart {w : World} {B m H : Nat} {lv : Value} {vs : List Value} {ls : List (List Ch.Row)} (h : OwnV w B lv m vs ls) (hH : w.heap.size ≤ H) : lv.ownBlock ≠ some H ∧ ∀ (i : Nat) (x : Value), vs[i]? = some x → x.ownBlock ≠ some H := by
  refine ⟨fun hb => ?_, fun i x hx hb => ?_⟩
  · have := (owns_lt h.2.1 H hb).2; omega
  · have := (h.lt i x H hx hb).2; omega

set_option maxHeartbeats 400000 in
theorem setFault_any (a : Option Addr) (n cap : Nat) (tx : Int) (ab : Option Addr) (nb cb : Nat) (ls : List (List Ch.Row)) (bs : List Ch.Bf) (w : World) (h : LvAt w a n ls) (hs : Ch.lvSize ls ≤ 1048576) (hb : CellsAt w ab (nb * 3) (bfcells bs)) (hnb : nb ≤ 1048576) :
    Calls Tryz.prog 22 #[.slice a n cap, .int .i64 tx, .slice ab nb cb] w fun e w' => e = .returned (.int .i64 (Ch.setF ls tx bs)) ∧ Below w.heap.size w w' := by
  have LI := fun W hW => implLeaves_any a n cap ls W hW hs
  have BI := fun W hW => implBefores_any ab nb cb bs W hW hnb
  have IT := fun W => isTxn_any tx W
  have HR : Hid (Ch.setF ls tx bs = if Ch.leavesFault ls != 0 then Ch.leavesFault ls else if Ch.inB tx 1 999 then Ch.befFault bs else 3) := rfl
  generalize Ch.leavesFault ls = c at *
  generalize Ch.befFault bs = d at *
  by_cases h0 : c = 0
  · subst h0
    cases ht : Ch.inB tx 1 999
    · rw [ht] at IT HR
      go_enter Tryz.func22, Tryz.ntmps22
      go_wp2_with fail
      refine (LI _ h).mono ?_
      rintro e w1 ⟨rfl, b1⟩
      go_wp2_with (go_at_call 46; refine (IT _).mono ?_; rintro e w' ⟨rfl, rfl⟩)
      go_ret
      exact ⟨ret_int HR.out.symm, b1⟩
    · rw [ht] at IT HR
      go_enter Tryz.func22, Tryz.ntmps22
      go_wp2_with fail
      refine (LI _ h).mono ?_
      rintro e w1 ⟨rfl, b1⟩
      go_wp2_with fail
      refine (IT _).mono ?_
      rintro e w' ⟨rfl, rfl⟩
      go_wp2_with fail
      refine (BI _ (hb.below b1)).mono ?_
      rintro e w2 ⟨rfl, b2⟩
      go_wp2
      go_ret
      exact ⟨ret_int HR.out.symm, b1.trans (b2.mono b1.size)⟩
  · have hc : (c != 0) = true := by simpa using h0
    rw [hc] at HR
    go_enter Tryz.func22, Tryz.ntmps22
    go_wp2_with fail
    refine (LI _ h).mono ?_
    rintro e w1 ⟨rfl, b1⟩
    go_wp2
    go_ret
    exact ⟨ret_int HR.out.symm, b1⟩


set_option linter.unusedSimpArgs false in
set_option maxHeartbeats 2000000 in
theorem putValue_any (a : Option Addr) (n cap : Nat) (key : Int) (has : Bool) (v : Int) (ls : List (List Ch.Row)) (w : World) (h : LvAt w a n ls) (hg : Ch.leavesFault ls = 0) (hk : Ch.inB key 0 99 = true) (hv : Ch.inB v 0 9999 = true) :
    Calls Tryz.prog 23 #[.slice a n cap, .int .i64 key, .bool has, .int .i64 v] w fun e w' => ∃ a' m c', e = .returned (.agg #[.int .i64 (Ch.setLs ls key has v).1, .slice a' m c']) ∧ OwnLv w' w.heap.size (.slice a' m c') m (Ch.setLs ls key has v).2 ∧ Below w.heap.size w w' := by
  have hs := Ch.good_size hg
  have b0 : Below w.heap.size w (w.alloc (.cells #[.int .i64 0, .slice none 0 0] 60)) := (Below.refl _ _).alloc (Nat.le_refl _) _
  have PI := fun W rv rg hW => implPutRow_any a n cap ls key rv rg W hW hs
  cases has
  · have FI := fun W hW => implFindRow_any a n cap key ls W hW hs
    have hfd : ∀ (x : Int) (y : Value) W, (Instr.field 50 (.agg #[.int .i64 x, y]) 0).run Tryz.prog W = .ok (.int .i64 x) W := fun _ _ _ => by kernel_rfl
    have ha := Ch.asked_of hg hk
    cases hf : Ch.findR ls key with
    | none =>
      rw [Ch.setLs_none hf]
      rw [Ch.findRR_none (by rw [ha]; rfl) hf] at FI
      have CI := fun W hW => cloneLeavesAll_any a n cap ls W hW hs (good_leaves (key := key) h.len.out (by rw [ha]; rfl))
      clear PI ha hf
      go_enter Tryz.func23, Tryz.ntmps23
      go_wp2_with fail
      refine (FI _ (h.below b0)).mono ?_
      rintro e w1 ⟨a1, m1, c1, rfl, hm1, own1, b1⟩
      obtain ⟨x0, x1, f0, f1⟩ := two_box b1
      have hz := lt_of_cell x0
      have bE := b0.trans (b1.mono b0.size)
      clear FI own1 b1
      go_wp2_with fail
      refine (CI _ (h.below bE)).mono ?_
      rintro e w2 ⟨a2, c2, rfl, own2, b2⟩
      replace x0 := keep_cell b2 x0
      replace x1 := keep_cell b2 x1
      replace f0 := ((bcell b2).2 w.heap.size 0 hz).trans f0
      replace f1 := ((bcell b2).2 w.heap.size 1 hz).trans f1
      have bF := bE.trans (b2.mono bE.size)
      obtain ⟨vs, own2⟩ := own2.told
      have st := (own2.store (p := w.heap.size) (o := 0) (u := .int .i64 0) (fun g hg => by have := (owns_lt own2.2.1 g hg).1; omega) (fun i x g hx hg => by have := (own2.lt i x g hx hg).1; omega)).store (p := w.heap.size) (o := 1) (u := .slice a2 n c2) (fun g hg => by have := (owns_lt own2.2.1 g hg).1; omega) (fun i x g hx hg => by have := (own2.lt i x g hx hg).1; omega)
      go_wp2
      exact bodyPost_ret (v := .agg #[.int .i64 0, .slice a2 n c2]) (by simp [results, Tryz.results23, go_sem, x0, x1]) rfl ⟨a2, n, c2, rfl, (st.base bE.size).own, (bF.setCell (p := ⟨w.heap.size, 0, none⟩) (Nat.le_refl _) _).setCell (p := ⟨w.heap.size, 1, none⟩) (Nat.le_refl _) _⟩
    | some r =>
      have hi : (Ch.findR ls key).isSome = true := by rw [hf]; rfl
      rw [Ch.setLs_ghost hg hk hi]
      rw [Ch.findRR_some (by rw [ha]; rfl) hf] at FI
      replace PI := fun W hW => PI W 0 true hW
      generalize Ch.putR ls ⟨key, 0, true⟩ = X at *
      obtain ⟨c, rl⟩ := X
      clear ha hf hi
      go_enter Tryz.func23, Tryz.ntmps23
      go_wp2_with fail
      refine (FI _ (h.below b0)).mono ?_
      rintro e w1 ⟨a1, m1, c1, rfl, hm1, own1, b1⟩
      obtain ⟨x0, x1, f0, f1⟩ := two_box b1
      have hz := lt_of_cell x0
      have bE := b0.trans (b1.mono b0.size)
      clear FI own1 b1
      go_wp2_with fail
      refine (PI _ (h.below bE)).mono ?_
      rintro e w2 ⟨a2, m2, c2, rfl, own2, b2⟩
      replace x0 := keep_cell b2 x0
      replace x1 := keep_cell b2 x1
      replace f0 := ((bcell b2).2 w.heap.size 0 hz).trans f0
      replace f1 := ((bcell b2).2 w.heap.size 1 hz).trans f1
      have bF := bE.trans (b2.mono bE.size)
      obtain ⟨vs, own2⟩ := own2.told
      have st := (own2.store (p := w.heap.size) (o := 0) (u := .int .i64 c) (fun g hg => by have := (owns_lt own2.2.1 g hg).1; omega) (fun i x g hx hg => by have := (own2.lt i x g hx hg).1; omega)).store (p := w.heap.size) (o := 1) (u := .slice a2 m2 c2) (fun g hg => by have := (owns_lt own2.2.1 g hg).1; omega) (fun i x g hx hg => by have := (own2.lt i x g hx hg).1; omega)
      go_wp2
      exact bodyPost_ret (v := .agg #[.int .i64 c, .slice a2 m2 c2]) (by simp [results, Tryz.results23, go_sem, x0, x1]) rfl ⟨a2, m2, c2, rfl, (st.base bE.size).own, (bF.setCell (p := ⟨w.heap.size, 0, none⟩) (Nat.le_refl _) _).setCell (p := ⟨w.heap.size, 1, none⟩) (Nat.le_refl _) _⟩
  · rw [Ch.setLs_has hg hk hv]
    replace PI := fun W hW => PI W v false hW
    generalize Ch.putR ls ⟨key, v, false⟩ = X at *
    obtain ⟨c, rl⟩ := X
    go_enter Tryz.func23, Tryz.ntmps23
    go_wp2_with fail
    refine (PI _ (h.below b0)).mono ?_
    rintro e w2 ⟨a2, m2, c2, rfl, own2, b2⟩
    obtain ⟨x0, x1, f0, f1⟩ := two_box b2
    have hz := lt_of_cell x0
    have bF := b0.trans (b2.mono b0.size)
    obtain ⟨vs, own2⟩ := own2.told
    have hbs : w.heap.size < (w.alloc (.cells #[.int .i64 0, .slice none 0 0] 60)).heap.size := by simp
    have st := (own2.store (p := w.heap.size) (o := 0) (u := .int .i64 c) (fun g hg => by have := (owns_lt own2.2.1 g hg).1; omega) (fun i x g hx hg => by have := (own2.lt i x g hx hg).1; omega)).store (p := w.heap.size) (o := 1) (u := .slice a2 m2 c2) (fun g hg => by have := (owns_lt own2.2.1 g hg).1; omega) (fun i x g hx hg => by have := (own2.lt i x g hx hg).1; omega)
    go_wp2
    exact bodyPost_ret (v := .agg #[.int .i64 c, .slice a2 m2 c2]) (by simp [results, Tryz.results23, go_sem, x0, x1]) rfl ⟨a2, m2, c2, rfl, (st.base b0.size).own, (bF.setCell (p := ⟨w.heap.size, 0, none⟩) (Nat.le_refl _) _).setCell (p := ⟨w.heap.size, 1, none⟩) (Nat.le_refl _) _⟩
end Go.Proofs.YthfanfnbjldddaaGreat


/- SetValue: the program's and the model's. -/
namespace Go.Proofs.YthfanfnbjldddaaGreat
open Go.RowKit

/-- One before that was just made, as a list of one. -/
theorem new_bef {w : World} {r : Ch.Bf} {t : TypeId} {H : Nat} (hH : H = w.heap.size) : CellsAt (w.alloc (.cells #[.int .i64 r.k, .bool r.h, .int .i64 r.v] t)) (some ⟨H, 0, none⟩) (1 * 3) (bfcells [r]) := by
  subst hH
  refine ⟨rfl, fun _ => ⟨_, _, rfl, fun i hi => ?_⟩⟩
  rw [Nat.zero_add]
  have := cell_of_row (w.alloc (.cells #[.int .i64 r.k, .bool r.h, .int .i64 r.v] t)) _ i _ _ _ (heap_alloc_new w _)
  rw [this]
  simp [bfcells]
theorem OwnV.store3 {w : World} {B m : Nat} {lv : Value} {vs : List Value} {ls : List (List Ch.Row)} (h : OwnV w B lv m vs ls) {q o : Nat} (hq : q < B) (u : Value) : OwnV (w.setCell ⟨q, o, Option.none⟩ u) B lv m vs ls :=
  h.store (fun g hg => by have := (owns_lt h.2.1 g hg).1; omega) (fun i x g hx hg => by have := (h.lt i x g hx hg).1; omega)
/-- A record that is made behind leaves. -/
theorem OwnU.make {W W' : World} {B H m : Nat} {lv : Value} {vs : List Value} {ls : List (List Ch.Row)} (own : OwnV W B lv m vs ls) (k : Below W.heap.size W W') (r : Ch.Rec) (hH : H = W'.heap.size) (hB : B ≤ W.heap.size) :
    OwnU (W'.alloc (.cells #[.int .i64 r.kd, .int .i64 r.tx, .int .i64 r.ky, .bool r.hd, .int .i64 r.ol, .bool r.hs, .int .i64 r.nw] 63)) B lv m ls (.slice (some ⟨H, 0, Option.none⟩) 1 1) 1 [r] := by
  refine ⟨vs, B, W.heap.size, (own.below k).below ((Below.refl _ _).alloc (Nat.le_refl _) _), own_rec r hH (Nat.le_trans hB k.size), Nat.le_refl _, by have := k.size; simp; omega, owns_lt own.2.1, own.lt, fun g hg => ?_⟩
  simp [Value.ownBlock] at hg
  subst hg
  exact .inr (by rw [hH]; exact k.size)

set_option linter.unusedSimpArgs false in
set_option maxHeartbeats 4000000 in
theorem implSetValue_any (a : Option Addr) (n cap : Nat) (tx key : Int) (has : Bool) (v : Int) (ls : List (List Ch.Row)) (w : World) (h : LvAt w a n ls) (hs : Ch.lvSize ls ≤ 1048576) :
    Calls Tryz.prog 7 #[.slice a n cap, .int .i64 tx, .int .i64 key, .bool has, .int .i64 v] w fun e w' => ∃ a' m c' r p q, e = .returned (.agg #[.int .i64 (Ch.setR ls tx key has v).1, .slice a' m c', .slice r p q]) ∧ OwnU w' w.heap.size (.slice a' m c') m (Ch.setR ls tx key has v).2.1 (.slice r p q) p (Ch.setR ls tx key has v).2.2 ∧ Below w.heap.size w w' := by
  have b0 : ∀ t, Below w.heap.size w ((w.alloc (.cells #[.int .i64 0, .slice none 0 0, .slice none 0 0] 33)).alloc (.cells #[.int .i64 key, .bool has, .int .i64 v] t)) := fun t => Below.alloc (Below.alloc (Below.refl _ w) (Nat.le_refl _) _) (by simp) _
  have nb := fun t => new_bef (w := w.alloc (.cells #[.int .i64 0, .slice none 0 0, .slice none 0 0] 33)) (r := ⟨key, has, v⟩) (t := t) (H := w.heap.size + 1) (by simp)
  have FI := fun ab nb cb W hW hb hn => setFault_any a n cap tx ab nb cb ls [⟨key, has, v⟩] W hW hs hb hn
  obtain ⟨c, HC⟩ : ∃ c, Hid (Ch.setF ls tx [⟨key, has, v⟩] = c) := ⟨_, rfl⟩
  rw [HC.out] at FI
  by_cases h0 : c = 0
  · subst h0
    obtain ⟨hg, _, hk, hv, _⟩ := Ch.setF_zero HC.out
    have PI := fun W hW => putValue_any a n cap key has v ls W hW hg hk hv
    have BI := fun W hW => implBeforeOf_any a n cap key ls W hW hs
    rw [Ch.bfOf_ok (by rw [Ch.asked_of hg hk]; rfl)] at BI
    have HR : Hid (Ch.setRec 2 ls tx key has v = ⟨2, tx, key, (Ch.bf key (Ch.has ls key)).h, (Ch.bf key (Ch.has ls key)).v, has, v⟩) := rfl
    have HX1 := hid (fun c hs hc => Ch.setR_many (c := c) HC.out hs hc)
    have HX0 := hid (fun hs => Ch.setR_ok HC.out hs)
    generalize Ch.bf key (Ch.has ls key) = bb at *
    generalize Ch.setRec 2 ls tx key has v = rr at *
    generalize Ch.setR ls tx key has v = X at *
    generalize Ch.setLs ls key has v = Y at *
    obtain ⟨yc, yl⟩ := Y
    obtain ⟨bk, bh, bv⟩ := bb
    simp only at HR HX1 HX0 PI BI
    clear HC hg hk hv
    go_enter Tryz.func7, Tryz.ntmps7
    go_wp2_with fail
    refine (FI _ _ _ _ (h.below (b0 _)) (nb _) (by omega)).mono ?_
    rintro e w1 ⟨rfl, b1⟩
    obtain ⟨x0, x1, x2, f0, f1, f2⟩ := three_box (below_box b1)
    have hz := lt_of_cell x0
    have bE := (b0 _).trans (b1.mono (b0 _).size)
    clear b1 FI nb
    go_wp2_with fail
    refine (PI _ (h.below bE)).mono ?_
    rintro e w2 ⟨a2, m2, c2, rfl, own2, b2⟩
    have z2 := b2.size
    replace x0 := keep_cell b2 x0
    replace x1 := keep_cell b2 x1
    replace x2 := keep_cell b2 x2
    replace f0 := ((bcell b2).2 w.heap.size 0 hz).trans f0
    replace f1 := ((bcell b2).2 w.heap.size 1 hz).trans f1
    replace f2 := ((bcell b2).2 w.heap.size 2 hz).trans f2
    have hz2 := lt_of_cell x0
    have bF := bE.trans (b2.mono bE.size)
    clear PI b2
    by_cases hy : yc = 0
    · subst hy
      replace HX0 := hid (HX0.out rfl)
      clear HX1
      have bG := bF.alloc bF.size (.cells #[.int .i64 0, .slice a2 m2 c2] 60)
      go_wp2_with fail
      refine (BI _ (h.below bG)).mono ?_
      rintro e w3 ⟨rfl, b3⟩
      have z3 := b3.size
      simp at z3
      obtain ⟨y0, y1, _, _⟩ := two_box b3
      have b3' := below_box b3
      replace x0 := keep_cell b3' x0
      replace x1 := keep_cell b3' x1
      replace x2 := keep_cell b3' x2
      replace f0 := ((bcell b3').2 w.heap.size 0 hz2).trans f0
      replace f1 := ((bcell b3').2 w.heap.size 1 hz2).trans f1
      replace f2 := ((bcell b3').2 w.heap.size 2 hz2).trans f2
      have hz3 := lt_of_cell x0
      have hy3 := lt_of_cell y0
      have own3 := own2.below b3'
      have bH := bF.trans (b3'.mono bF.size)
      clear BI b3
      have hz4 : w.heap.size < w3.heap.size + 1 := by omega
      have hz5 : w.heap.size < w3.heap.size + 1 + 1 := by omega
      have hz6 : w.heap.size < w3.heap.size + 2 := by omega
      go_wp2
      refine bodyPost_ret (v := .agg #[.int .i64 0, .slice a2 m2 c2, .slice (some ⟨w3.heap.size + 2, 0, none⟩) 1 1]) (by simp [results, Tryz.results7, go_sem, x0, x1, x2, hz3, Nat.lt_succ_of_lt hz3, Nat.lt_succ_of_lt (Nat.lt_succ_of_lt hz3)]) rfl ⟨a2, m2, c2, _, 1, 1, by rw [HX0.out], ?_, ?_⟩
      · rw [HX0.out, HR.out]
        obtain ⟨vs, own3⟩ := own3.told
        have own4 := ((own3.store3 (q := w.heap.size) (o := 0) hz (.int .i64 0)).store3 (q := w.heap.size) (o := 1) hz (.slice a2 m2 c2)).store3 (q := w.heap.size) (o := 2) hz (.slice (some ⟨w3.heap.size + 1 + 1, 0, none⟩) 1 1)
        generalize hW : ((w3.setCell ⟨w.heap.size, 0, none⟩ (.int .i64 0)).setCell ⟨w.heap.size, 1, none⟩ (.slice a2 m2 c2)).setCell ⟨w.heap.size, 2, none⟩ (.slice (some ⟨w3.heap.size + 1 + 1, 0, none⟩) 1 1) = W at own4 ⊢
        have hsz : W.heap.size = w3.heap.size := by rw [← hW]; simp
        have k2 := ((Below.refl W.heap.size W).alloc (Nat.le_refl _) (.cells #[.int .i64 bk, .bool bh, .int .i64 bv] 36)).alloc (by simp) (.cells #[.int .i64 2, .int .i64 tx, .int .i64 key, .bool bh, .int .i64 bv, .bool has, .int .i64 v] 63)
        exact (OwnU.make own4 k2 ⟨2, tx, key, bh, bv, has, v⟩ (H := w3.heap.size + 2) (by simp; omega) (by omega)).base (Nat.le_of_lt hz)
      · exact Below.alloc (Below.alloc (Below.alloc (((bH.setCell (p := ⟨w.heap.size, 0, none⟩) (Nat.le_refl _) _).setCell (p := ⟨w.heap.size, 1, none⟩) (Nat.le_refl _) _).setCell (p := ⟨w.heap.size, 2, none⟩) (Nat.le_refl _) _) (by simp; omega) _) (by simp; omega) _) (by simp; omega) _
    · replace HX1 := hid (HX1.out yc rfl (by simpa using hy))
      clear HX0
      have hyc : (yc != 0) = true := by simpa using hy
      go_wp2
      refine bodyPost_ret (v := .agg #[.int .i64 yc, .slice none 0 0, .slice none 0 0]) (by simp [results, Tryz.results7, go_sem, x0, x1, x2, hz2]) rfl ⟨none, 0, 0, none, 0, 0, by rw [HX1.out], ?_, ?_⟩
      · rw [HX1.out]
        exact OwnU.none _ _
      · exact Below.alloc (((bF.setCell (p := ⟨w.heap.size, 0, none⟩) (Nat.le_refl _) _).setCell (p := ⟨w.heap.size, 1, none⟩) (Nat.le_refl _) _).setCell (p := ⟨w.heap.size, 2, none⟩) (Nat.le_refl _) _) (by simp; omega) _
  · have hc : (c != 0) = true := by simpa using h0
    rw [Ch.setR_code HC.out hc]
    clear HC
    go_enter Tryz.func7, Tryz.ntmps7
    go_wp2_with fail
    refine (FI _ _ _ _ (h.below (b0 _)) (nb _) (by omega)).mono ?_
    rintro e w1 ⟨rfl, b1⟩
    obtain ⟨x0, x1, x2, f0, f1, f2⟩ := three_box (below_box b1)
    have hz := lt_of_cell x0
    have bE := (b0 _).trans (b1.mono (b0 _).size)
    clear b1 FI nb
    go_wp2
    exact bodyPost_ret (v := .agg #[.int .i64 c, .slice none 0 0, .slice none 0 0]) (by simp [results, Tryz.results7, go_sem, x0, x1, x2, hz]) rfl ⟨none, 0, 0, none, 0, 0, rfl, OwnU.none _ _, ((bE.setCell (p := ⟨w.heap.size, 0, none⟩) (Nat.le_refl _) _).setCell (p := ⟨w.heap.size, 1, none⟩) (Nat.le_refl _) _).setCell (p := ⟨w.heap.size, 2, none⟩) (Nat.le_refl _) _⟩
end Go.Proofs.YthfanfnbjldddaaGreat


/- SetValue of the model. -/
namespace Go.Proofs.YthfanfnbjldddaaGreat
open Go.RowKit

theorem rowSeven {W : World} {g : Nat} {t : TypeId} {u0 u1 u2 u3 u4 u5 u6 : Value} (h : W.heap[g]? = some (.cells #[u0, u1, u2, u3, u4, u5, u6] t (0, 0))) :
    (W.cell? ⟨g, 0, none⟩ = some u0 ∧ W.cell? ⟨g, 1, none⟩ = some u1 ∧ W.cell? ⟨g, 2, none⟩ = some u2 ∧ W.cell? ⟨g, 3, none⟩ = some u3 ∧ W.cell? ⟨g, 4, none⟩ = some u4 ∧ W.cell? ⟨g, 5, none⟩ = some u5 ∧ W.cell? ⟨g, 6, none⟩ = some u6) ∧ ∀ o, W.frozen? ⟨g, o, none⟩ = false :=
  ⟨⟨cell_of_row _ _ _ _ _ _ h, cell_of_row _ _ _ _ _ _ h, cell_of_row _ _ _ _ _ _ h, cell_of_row _ _ _ _ _ _ h, cell_of_row _ _ _ _ _ _ h, cell_of_row _ _ _ _ _ _ h, cell_of_row _ _ _ _ _ _ h⟩, fun o => by simp [World.frozen?, h]⟩
theorem below_store7 {B : Nat} {w w' : World} (h : Below B w w') {q : Nat} (hq : B ≤ q) (v0 v1 v2 v3 v4 v5 v6 : Value) : Below B w (((((((w'.setCell ⟨q, 0, none⟩ v0).setCell ⟨q, 1, none⟩ v1).setCell ⟨q, 2, none⟩ v2).setCell ⟨q, 3, none⟩ v3).setCell ⟨q, 4, none⟩ v4).setCell ⟨q, 5, none⟩ v5).setCell ⟨q, 6, none⟩ v6) :=
  ((((((h.setCell (p := ⟨q, 0, none⟩) hq v0).setCell (p := ⟨q, 1, none⟩) hq v1).setCell (p := ⟨q, 2, none⟩) hq v2).setCell (p := ⟨q, 3, none⟩) hq v3).setCell (p := ⟨q, 4, none⟩) hq v4).setCell (p := ⟨q, 5, none⟩) hq v5).setCell (p := ⟨q, 6, none⟩) hq v6
theorem OwnV.store7 {w : World} {B m : Nat} {lv : Value} {vs : List Value} {ls : List (List Ch.Row)} (h : OwnV w B lv m vs ls) {q : Nat} (hq : q < B) (v0 v1 v2 v3 v4 v5 v6 : Value) : OwnV (((((((w.setCell ⟨q, 0, Option.none⟩ v0).setCell ⟨q, 1, Option.none⟩ v1).setCell ⟨q, 2, Option.none⟩ v2).setCell ⟨q, 3, Option.none⟩ v3).setCell ⟨q, 4, Option.none⟩ v4).setCell ⟨q, 5, Option.none⟩ v5).setCell ⟨q, 6, Option.none⟩ v6) B lv m vs ls :=
  ((((((h.store3 hq v0).store3 hq v1).store3 hq v2).store3 hq v3).store3 hq v4).store3 hq v5).store3 hq v6

set_option linter.unusedSimpArgs false in
set_option maxRecDepth 20000 in
set_option maxHeartbeats 4000000 in
theorem l8Set_any (a : Option Addr) (n cap : Nat) (tx key : Int) (has : Bool) (v : Int) (ls : List (List Ch.Row)) (w : World) (h : LvAt w a n ls) (hg : Ch.leavesFault ls = 0) (hk : Ch.inB key 0 99 = true) :
    Calls Tryz.prog 29 #[.slice a n cap, .int .i64 tx, .int .i64 key, .bool has, .int .i64 v] w fun e w' => ∃ a' m c', e = .returned (.tuple #[.slice a' m c', .agg #[.int .i64 2, .int .i64 tx, .int .i64 key, .bool (Ch.bf key (Ch.has ls key)).h, .int .i64 (Ch.bf key (Ch.has ls key)).v, .bool has, .int .i64 v], .int .i64 (Ch.setLs ls key has v).1]) ∧ OwnLv w' w.heap.size (.slice a' m c') m (Ch.setLs ls key has v).2 ∧ Below w.heap.size w w' := by
  have hs := Ch.good_size hg
  have ha := Ch.asked_of hg hk
  have hgl := good_leaves (key := key) h.len.out (by rw [ha]; rfl)
  have BI := fun W hW => l8Before_any a n cap key ls W hW hs hgl
  have kA : ∀ o, Below w.heap.size w (w.alloc o) := fun o => (Below.refl _ _).alloc (Nat.le_refl _) o
  generalize Ch.bf key (Ch.has ls key) = bb at *
  obtain ⟨bk, bh, bv⟩ := bb
  cases has
  · have FI := fun W hW => specFind_any a n cap key ls W hW hs hgl
    have PI := fun W hW => specPut_any a n cap ls key 0 true W hW hs hg
    have CI := fun W hW => specCopy_any a n cap ls W hW hs hgl
    have HS1 := hid (fun hf => (show Ch.setLs ls key false v = (0, Ch.put ls ⟨key, 0, true⟩) by unfold Ch.setLs; rw [if_neg Bool.false_ne_true, if_pos hf]))
    have HS0 := hid (fun hf => Ch.setLs_none (ls := ls) (key := key) (v := v) hf)
    generalize Ch.put ls ⟨key, 0, true⟩ = P at *
    generalize Ch.setLs ls key false v = X at *
    go_enter Tryz.func29, Tryz.ntmps29
    go_wp2_with fail
    refine (BI _ (h.below (kA _))).mono ?_
    rintro e w1 ⟨rfl, b1⟩
    have hR := block_below b1 (heap_alloc_new w _)
    have bE := below_box b1
    clear b1 BI
    have kB : ∀ o o', Below w1.heap.size w1 ((w1.alloc o).alloc o') := fun o o' => ((Below.refl _ _).alloc (Nat.le_refl _) o).alloc (by simp) o'
    go_wp2_with fail
    refine (FI _ (h.below (bE.trans ((kB _ _).mono bE.size)))).mono ?_
    rintro e w2 ⟨⟨rk, rv, rg⟩, ok, rfl, his, b2⟩
    have hT := block_below b2 (heap_alloc_new _ _)
    have hR2 := block_below b2 (block_below (kB _ _) hR)
    have bF := (bE.trans ((kB _ _).mono bE.size)).trans (b2.mono (Nat.le_trans bE.size (kB _ _).size))
    have hz1 := (Array.getElem?_eq_some_iff.1 hR).1
    have z2 := b2.size
    simp at z2 hT
    have kC : Below w2.heap.size w2 (w2.alloc (.cells #[.int .i64 rk, .int .i64 rv, .bool rg] 53)) := (Below.refl _ _).alloc (Nat.le_refl _) _
    replace hT := block_below kC hT
    replace hR2 := block_below kC hR2
    replace bF := bF.trans (kC.mono bF.size)
    clear kC hR b2 FI
    simp only [FindIs] at his
    rcases his with ⟨rfl, hf⟩ | ⟨rfl, hf⟩
    · have HX := hid (HS1.out (by rw [hf]; rfl))
      clear HS1 HS0 CI hf
      have hzz : w.heap.size < (w2.alloc (.cells #[.int .i64 rk, .int .i64 rv, .bool rg] 53)).heap.size := (Array.getElem?_eq_some_iff.1 hR2).1
      obtain ⟨⟨y0, y1, y2, y3, y4, y5, y6⟩, _⟩ := rowSeven hT
      go_wp2
      go_region_with (go_at_call 57; refine (PI _ (h.below bF.drew)).mono ?_; rintro e w3 ⟨a3, m3, c3, rfl, own3, b3⟩; have b4 : Below (w2.alloc (.cells #[.int .i64 rk, .int .i64 rv, .bool rg] 53)).heap.size (w2.alloc (.cells #[.int .i64 rk, .int .i64 rv, .bool rg] 53)) w3 := ⟨b3.os, b3.tape, b3.output, b3.size, b3.block⟩; have hR3 := block_below b4 hR2; have y0 := keep_cell b4 y0; have y1 := keep_cell b4 y1; have y2 := keep_cell b4 y2; have y3 := keep_cell b4 y3; have y4 := keep_cell b4 y4; have y5 := keep_cell b4 y5; have y6 := keep_cell b4 y6; obtain ⟨⟨x0, x1, x2, x3, x4, x5, x6⟩, fx⟩ := rowSeven hR3; have f0 := fx 0; have f1 := fx 1; have f2 := fx 2; have f3 := fx 3; have f4 := fx 4; have f5 := fx 5; have f6 := fx 6; clear fx)
      all_goals
        have bG := bF.trans (b4.mono bF.size)
        obtain ⟨vs, own3⟩ := own3.told
        have own4 := (own3.store7 (q := w.heap.size) hzz (.int .i64 2) (.int .i64 tx) (.int .i64 key) (.bool bh) (.int .i64 bv) (.bool false) (.int .i64 v)).base (B' := w.heap.size) (Nat.le_of_lt hzz)
        have bH := below_store7 bG (q := w.heap.size) (Nat.le_refl _) (.int .i64 2) (.int .i64 tx) (.int .i64 key) (.bool bh) (.int .i64 bv) (.bool false) (.int .i64 v)
        go_wp2
        exact bodyPost_ret (v := .tuple #[.slice a3 m3 c3, .agg #[.int .i64 2, .int .i64 tx, .int .i64 key, .bool bh, .int .i64 bv, .bool false, .int .i64 v], .int .i64 0]) (by simp [results, Tryz.results29, go_sem, x0, x1, x2, x3, x4, x5, x6]) rfl ⟨a3, m3, c3, by rw [HX.out], by rw [HX.out]; exact own4.own, bH⟩
    · have HX := hid (HS0.out hf)
      clear HS1 HS0 PI hf
      have hzz : w.heap.size < (w2.alloc (.cells #[.int .i64 rk, .int .i64 rv, .bool rg] 53)).heap.size := (Array.getElem?_eq_some_iff.1 hR2).1
      obtain ⟨⟨y0, y1, y2, y3, y4, y5, y6⟩, _⟩ := rowSeven hT
      go_wp2
      go_region_with (go_at_call 59; refine (CI _ (h.below bF.drew)).mono ?_; rintro e w3 ⟨a3, c3, rfl, own3, b3⟩; have b4 : Below (w2.alloc (.cells #[.int .i64 rk, .int .i64 rv, .bool rg] 53)).heap.size (w2.alloc (.cells #[.int .i64 rk, .int .i64 rv, .bool rg] 53)) w3 := ⟨b3.os, b3.tape, b3.output, b3.size, b3.block⟩; have hR3 := block_below b4 hR2; have y0 := keep_cell b4 y0; have y1 := keep_cell b4 y1; have y2 := keep_cell b4 y2; have y3 := keep_cell b4 y3; have y4 := keep_cell b4 y4; have y5 := keep_cell b4 y5; have y6 := keep_cell b4 y6; obtain ⟨⟨x0, x1, x2, x3, x4, x5, x6⟩, fx⟩ := rowSeven hR3; have f0 := fx 0; have f1 := fx 1; have f2 := fx 2; have f3 := fx 3; have f4 := fx 4; have f5 := fx 5; have f6 := fx 6; clear fx)
      all_goals
        have bG := bF.trans (b4.mono bF.size)
        obtain ⟨vs, own3⟩ := own3.told
        have own4 := (own3.store7 (q := w.heap.size) hzz (.int .i64 2) (.int .i64 tx) (.int .i64 key) (.bool bh) (.int .i64 bv) (.bool false) (.int .i64 v)).base (B' := w.heap.size) (Nat.le_of_lt hzz)
        have bH := below_store7 bG (q := w.heap.size) (Nat.le_refl _) (.int .i64 2) (.int .i64 tx) (.int .i64 key) (.bool bh) (.int .i64 bv) (.bool false) (.int .i64 v)
        go_wp2
        exact bodyPost_ret (v := .tuple #[.slice a3 n c3, .agg #[.int .i64 2, .int .i64 tx, .int .i64 key, .bool bh, .int .i64 bv, .bool false, .int .i64 v], .int .i64 0]) (by simp [results, Tryz.results29, go_sem, x0, x1, x2, x3, x4, x5, x6]) rfl ⟨a3, n, c3, by rw [HX.out], by rw [HX.out]; exact own4.own, bH⟩
  · have PI := fun W hW => specPut_any a n cap ls key v false W hW hs hg
    have HS : Hid (Ch.setLs ls key true v = if 60 < (Ch.put ls ⟨key, v, false⟩).length then (2, []) else (0, Ch.put ls ⟨key, v, false⟩)) := rfl
    generalize Ch.put ls ⟨key, v, false⟩ = P at *
    generalize Ch.setLs ls key true v = X at *
    go_enter Tryz.func29, Tryz.ntmps29
    go_wp2_with fail
    refine (BI _ (h.below (kA _))).mono ?_
    rintro e w1 ⟨rfl, b1⟩
    have hR := block_below b1 (heap_alloc_new w _)
    have bE := below_box b1
    clear b1 BI
    have kB : ∀ o o', Below w1.heap.size w1 ((w1.alloc o).alloc o') := fun o o' => ((Below.refl _ _).alloc (Nat.le_refl _) o).alloc (by simp) o'
    go_wp2_with fail
    refine (PI _ (h.below (bE.trans ((kB _ _).mono bE.size)))).mono ?_
    rintro e w2 ⟨a2, m2, c2, rfl, own2, b2⟩
    have hT := block_below b2 (heap_alloc_new _ _)
    have hR2 := block_below b2 (block_below (kB _ _) hR)
    have bF := (bE.trans ((kB _ _).mono bE.size)).trans (b2.mono (Nat.le_trans bE.size (kB _ _).size))
    have hz1 := (Array.getElem?_eq_some_iff.1 hR).1
    have z2 := b2.size
    simp at z2 hT
    obtain ⟨⟨x0, x1, x2, x3, x4, x5, x6⟩, fx⟩ := rowSeven hR2
    obtain ⟨⟨y0, y1, y2, y3, y4, y5, y6⟩, fy⟩ := rowSeven hT
    have f0 := fx 0
    have f1 := fx 1
    have f2 := fx 2
    have f3 := fx 3
    have f4 := fx 4
    have f5 := fx 5
    have f6 := fx 6
    clear fx fy hT hR2 hR PI
    obtain ⟨vs, own2⟩ := own2.told
    have HM : Hid (m2 = P.length) := own2.1.symm
    have own3 := (own2.store7 (q := w.heap.size) (by simp; omega) (.int .i64 2) (.int .i64 tx) (.int .i64 key) (.bool bh) (.int .i64 bv) (.bool true) (.int .i64 v)).base (B' := w.heap.size) (by simp; omega)
    have bG := below_store7 bF (q := w.heap.size) (Nat.le_refl _) (.int .i64 2) (.int .i64 tx) (.int .i64 key) (.bool bh) (.int .i64 bv) (.bool true) (.int .i64 v)
    by_cases h60 : 60 < m2
    · rw [if_pos (by have := HM.out; omega)] at HS
      go_wp2
      go_region
      all_goals
        go_wp2
        exact bodyPost_ret (v := .tuple #[.slice none 0 0, .agg #[.int .i64 2, .int .i64 tx, .int .i64 key, .bool bh, .int .i64 bv, .bool true, .int .i64 v], .int .i64 2]) (by simp [results, Tryz.results29, go_sem, x0, x1, x2, x3, x4, x5, x6]) rfl ⟨none, 0, 0, by rw [HS.out], by rw [HS.out]; exact OwnLv.nil _ _, bG.drew⟩
    · rw [if_neg (by have := HM.out; omega)] at HS
      go_wp2
      go_region
      all_goals
        go_wp2
        exact bodyPost_ret (v := .tuple #[.slice a2 m2 c2, .agg #[.int .i64 2, .int .i64 tx, .int .i64 key, .bool bh, .int .i64 bv, .bool true, .int .i64 v], .int .i64 0]) (by simp [results, Tryz.results29, go_sem, x0, x1, x2, x3, x4, x5, x6]) rfl ⟨a2, m2, c2, by rw [HS.out], by rw [HS.out]; exact (own3.below (Below.refl _ _).drew).own, bG.drew⟩

theorem Ch.setF_lv {ls : List (List Ch.Row)} {tx : Int} {bs : List Ch.Bf} {c : Int} (h : Ch.leavesFault ls = c) (hc : (c != 0) = true) : Ch.setF ls tx bs = c := by rw [Ch.setF, h, if_pos hc]
theorem Ch.setF_tx {ls : List (List Ch.Row)} {tx : Int} {bs : List Ch.Bf} (h : Ch.leavesFault ls = 0) (ht : Ch.inB tx 1 999 = false) : Ch.setF ls tx bs = 3 := by rw [Ch.setF, h, ht]; rfl
theorem Ch.setF_bf {ls : List (List Ch.Row)} {tx : Int} {b : Ch.Bf} (h : Ch.leavesFault ls = 0) (ht : Ch.inB tx 1 999 = true) : Ch.setF ls tx [b] = b.fault := by rw [Ch.setF, h, ht, Ch.bef_single]; rfl

set_option linter.unusedSimpArgs false in
set_option maxRecDepth 20000 in
set_option maxHeartbeats 4000000 in
theorem specSetValue_any (a : Option Addr) (n cap : Nat) (tx key : Int) (has : Bool) (v : Int) (ls : List (List Ch.Row)) (w : World) (h : LvAt w a n ls) (hs : Ch.lvSize ls ≤ 1048576) :
    Calls Tryz.prog 9 #[.slice a n cap, .int .i64 tx, .int .i64 key, .bool has, .int .i64 v] w fun e w' => ∃ a' m c' r p q, e = .returned (.agg #[.int .i64 (Ch.setR ls tx key has v).1, .slice a' m c', .slice r p q]) ∧ OwnU w' w.heap.size (.slice a' m c') m (Ch.setR ls tx key has v).2.1 (.slice r p q) p (Ch.setR ls tx key has v).2.2 ∧ Below w.heap.size w w' := by
  have b0 : Below w.heap.size w (w.alloc (.cells #[.int .i64 0, .slice none 0 0, .slice none 0 0] 33)) := (Below.refl _ _).alloc (Nat.le_refl _) _
  have LI := fun W hW => specLv_any a n cap ls W hW hs
  have IT := fun W => l2Txn_any tx W
  have IK := fun W => key_any key W
  have IV := fun W => value_any v W
  obtain ⟨c, HC⟩ : ∃ c, Hid (Ch.leavesFault ls = c) := ⟨_, rfl⟩
  rw [HC.out] at LI
  by_cases h0 : c = 0
  rotate_left
  · have hc : (c != 0) = true := by simpa using h0
    have HX := hid (Ch.setR_code (tx := tx) (key := key) (has := has) (v := v) (Ch.setF_lv HC.out hc) hc)
    generalize Ch.setR ls tx key has v = X at *
    go_enter Tryz.func9, Tryz.ntmps9
    go_wp2_with fail
    refine (LI _ (h.below b0)).mono ?_
    rintro e w1 ⟨rfl, b1⟩
    obtain ⟨x0, x1, x2, f0, f1, f2⟩ := three_box b1
    have hz := lt_of_cell x0
    have bE := b0.trans (b1.mono b0.size)
    clear b1 LI
    go_wp2
    exact bodyPost_ret (v := .agg #[.int .i64 c, .slice none 0 0, .slice none 0 0]) (by simp [results, Tryz.results9, go_sem, x0, x1, x2, hz]) rfl ⟨none, 0, 0, none, 0, 0, by rw [HX.out], by rw [HX.out]; exact OwnU.none _ _, ((bE.setCell (p := ⟨w.heap.size, 0, none⟩) (Nat.le_refl _) _).setCell (p := ⟨w.heap.size, 1, none⟩) (Nat.le_refl _) _).setCell (p := ⟨w.heap.size, 2, none⟩) (Nat.le_refl _) _⟩
  subst h0
  cases ht : Ch.inB tx 1 999
  · have HX := hid (Ch.setR_code (key := key) (has := has) (v := v) (Ch.setF_tx (bs := [⟨key, has, v⟩]) HC.out ht) rfl)
    generalize Ch.setR ls tx key has v = X at *
    rw [ht] at IT
    go_enter Tryz.func9, Tryz.ntmps9
    go_wp2_with fail
    refine (LI _ (h.below b0)).mono ?_
    rintro e w1 ⟨rfl, b1⟩
    obtain ⟨x0, x1, x2, f0, f1, f2⟩ := three_box b1
    have hz := lt_of_cell x0
    have bE := b0.trans (b1.mono b0.size)
    clear b1 LI
    go_wp2_with fail
    refine (IT _).mono ?_
    rintro e w' ⟨rfl, rfl⟩
    go_wp2
    exact bodyPost_ret (v := .agg #[.int .i64 3, .slice none 0 0, .slice none 0 0]) (by simp [results, Tryz.results9, go_sem, x0, x1, x2, hz]) rfl ⟨none, 0, 0, none, 0, 0, by rw [HX.out], by rw [HX.out]; exact OwnU.none _ _, ((bE.setCell (p := ⟨w.heap.size, 0, none⟩) (Nat.le_refl _) _).setCell (p := ⟨w.heap.size, 1, none⟩) (Nat.le_refl _) _).setCell (p := ⟨w.heap.size, 2, none⟩) (Nat.le_refl _) _⟩
  cases hk : Ch.inB key 0 99
  · have HX := hid (Ch.setR_code (key := key) (has := has) (v := v) ((Ch.setF_bf (b := ⟨key, has, v⟩) HC.out ht).trans (Ch.bf_range (by rw [hk]; rfl))) rfl)
    generalize Ch.setR ls tx key has v = X at *
    rw [ht] at IT
    rw [hk] at IK
    go_enter Tryz.func9, Tryz.ntmps9
    go_wp2_with fail
    refine (LI _ (h.below b0)).mono ?_
    rintro e w1 ⟨rfl, b1⟩
    obtain ⟨x0, x1, x2, f0, f1, f2⟩ := three_box b1
    have hz := lt_of_cell x0
    have bE := b0.trans (b1.mono b0.size)
    clear b1 LI
    go_wp2_with fail
    refine (IT _).mono ?_
    rintro e w' ⟨rfl, rfl⟩
    go_wp2_with fail
    refine (IK _).mono ?_
    rintro e w' ⟨rfl, rfl⟩
    go_wp2
    exact bodyPost_ret (v := .agg #[.int .i64 3, .slice none 0 0, .slice none 0 0]) (by simp [results, Tryz.results9, go_sem, x0, x1, x2, hz]) rfl ⟨none, 0, 0, none, 0, 0, by rw [HX.out], by rw [HX.out]; exact OwnU.none _ _, ((bE.setCell (p := ⟨w.heap.size, 0, none⟩) (Nat.le_refl _) _).setCell (p := ⟨w.heap.size, 1, none⟩) (Nat.le_refl _) _).setCell (p := ⟨w.heap.size, 2, none⟩) (Nat.le_refl _) _⟩
  cases hv : Ch.inB v 0 9999
  · have HX := hid (Ch.setR_code (key := key) (has := has) (v := v) ((Ch.setF_bf (b := ⟨key, has, v⟩) HC.out ht).trans (Ch.bf_range (by rw [hk, hv]; rfl))) rfl)
    generalize Ch.setR ls tx key has v = X at *
    rw [ht] at IT
    rw [hk] at IK
    rw [hv] at IV
    go_enter Tryz.func9, Tryz.ntmps9
    go_wp2_with fail
    refine (LI _ (h.below b0)).mono ?_
    rintro e w1 ⟨rfl, b1⟩
    obtain ⟨x0, x1, x2, f0, f1, f2⟩ := three_box b1
    have hz := lt_of_cell x0
    have bE := b0.trans (b1.mono b0.size)
    clear b1 LI
    go_wp2_with fail
    refine (IT _).mono ?_
    rintro e w' ⟨rfl, rfl⟩
    go_wp2_with fail
    refine (IK _).mono ?_
    rintro e w' ⟨rfl, rfl⟩
    go_wp2_with fail
    refine (IV _).mono ?_
    rintro e w' ⟨rfl, rfl⟩
    go_wp2
    exact bodyPost_ret (v := .agg #[.int .i64 3, .slice none 0 0, .slice none 0 0]) (by simp [results, Tryz.results9, go_sem, x0, x1, x2, hz]) rfl ⟨none, 0, 0, none, 0, 0, by rw [HX.out], by rw [HX.out]; exact OwnU.none _ _, ((bE.setCell (p := ⟨w.heap.size, 0, none⟩) (Nat.le_refl _) _).setCell (p := ⟨w.heap.size, 1, none⟩) (Nat.le_refl _) _).setCell (p := ⟨w.heap.size, 2, none⟩) (Nat.le_refl _) _⟩
  cases hf : (!has && v != 0)
  rotate_left
  · have HX := hid (Ch.setR_code (key := key) (has := has) (v := v) ((Ch.setF_bf (b := ⟨key, has, v⟩) HC.out ht).trans (Ch.bf_form (by rw [hk, hv]; rfl) hf)) rfl)
    obtain ⟨rfl, hv0⟩ : has = false ∧ (v != 0) = true := by cases has <;> simp_all
    clear hf
    generalize Ch.setR ls tx key false v = X at *
    rw [ht] at IT
    rw [hk] at IK
    rw [hv] at IV
    go_enter Tryz.func9, Tryz.ntmps9
    go_wp2_with fail
    refine (LI _ (h.below b0)).mono ?_
    rintro e w1 ⟨rfl, b1⟩
    obtain ⟨x0, x1, x2, f0, f1, f2⟩ := three_box b1
    have hz := lt_of_cell x0
    have bE := b0.trans (b1.mono b0.size)
    clear b1 LI
    go_wp2_with fail
    refine (IT _).mono ?_
    rintro e w' ⟨rfl, rfl⟩
    go_wp2_with fail
    refine (IK _).mono ?_
    rintro e w' ⟨rfl, rfl⟩
    go_wp2_with fail
    refine (IV _).mono ?_
    rintro e w' ⟨rfl, rfl⟩
    go_wp2
    exact bodyPost_ret (v := .agg #[.int .i64 1, .slice none 0 0, .slice none 0 0]) (by simp [results, Tryz.results9, go_sem, x0, x1, x2, hz]) rfl ⟨none, 0, 0, none, 0, 0, by rw [HX.out], by rw [HX.out]; exact OwnU.none _ _, ((bE.setCell (p := ⟨w.heap.size, 0, none⟩) (Nat.le_refl _) _).setCell (p := ⟨w.heap.size, 1, none⟩) (Nat.le_refl _) _).setCell (p := ⟨w.heap.size, 2, none⟩) (Nat.le_refl _) _⟩
  have HF := hid ((Ch.setF_bf (b := ⟨key, has, v⟩) HC.out ht).trans (Ch.bf_fine (by rw [hk, hv]; rfl) hf))
  have SI := fun W hW => l8Set_any a n cap tx key has v ls W hW HC.out hk
  have HX1 := hid (fun c hs hc => Ch.setR_many (c := c) HF.out hs hc)
  have HX0 := hid (fun hs => Ch.setR_ok HF.out hs)
  have HR : Hid (Ch.setRec 2 ls tx key has v = ⟨2, tx, key, (Ch.bf key (Ch.has ls key)).h, (Ch.bf key (Ch.has ls key)).v, has, v⟩) := rfl
  rw [ht] at IT
  rw [hk] at IK
  rw [hv] at IV
  generalize Ch.bf key (Ch.has ls key) = bb at *
  generalize Ch.setRec 2 ls tx key has v = rr at *
  generalize Ch.setR ls tx key has v = X at *
  generalize Ch.setLs ls key has v = Y at *
  obtain ⟨yc, yl⟩ := Y
  obtain ⟨bk, bh, bv⟩ := bb
  simp only at HR HX1 HX0 SI
  clear HF HC ht hk hv
  by_cases hy : yc = 0
  · subst hy
    replace HX0 := hid (HX0.out rfl)
    clear HX1
    have hcase : has = true ∨ (has = false ∧ (v != 0) = false) := by cases has <;> simp_all
    rcases hcase with rfl | ⟨rfl, hv0⟩
    · go_enter Tryz.func9, Tryz.ntmps9
      go_wp2_with fail
      refine (LI _ (h.below b0)).mono ?_
      rintro e w1 ⟨rfl, b1⟩
      obtain ⟨x0, x1, x2, f0, f1, f2⟩ := three_box b1
      have hz := lt_of_cell x0
      have bE := b0.trans (b1.mono b0.size)
      clear b1 LI
      go_wp2_with fail
      refine (IT _).mono ?_
      rintro e w' ⟨rfl, rfl⟩
      go_wp2_with fail
      refine (IK _).mono ?_
      rintro e w' ⟨rfl, rfl⟩
      go_wp2_with fail
      refine (IV _).mono ?_
      rintro e w' ⟨rfl, rfl⟩
      go_wp2_with fail
      refine (SI _ (h.below bE)).mono ?_
      rintro e w2 ⟨a2, m2, c2, rfl, own2, b2⟩
      replace x0 := keep_cell b2 x0
      replace x1 := keep_cell b2 x1
      replace x2 := keep_cell b2 x2
      replace f0 := ((bcell b2).2 w.heap.size 0 hz).trans f0
      replace f1 := ((bcell b2).2 w.heap.size 1 hz).trans f1
      replace f2 := ((bcell b2).2 w.heap.size 2 hz).trans f2
      have hz2 := lt_of_cell x0
      have z2 := b2.size
      have bF := bE.trans (b2.mono bE.size)
      have hz4 : w.heap.size < w2.heap.size + 1 := by omega
      have hz5 : w.heap.size < w2.heap.size + 1 + 1 := by omega
      clear SI b2
      go_wp2
      refine bodyPost_ret (v := .agg #[.int .i64 0, .slice a2 m2 c2, .slice (some ⟨w2.heap.size + 1, 0, none⟩) 1 1]) (by simp [results, Tryz.results9, go_sem, x0, x1, x2, hz2, hz4]) rfl ⟨a2, m2, c2, _, 1, 1, by rw [HX0.out], ?_, ?_⟩
      · rw [HX0.out, HR.out]
        obtain ⟨vs, own3⟩ := own2.told
        have own4 := ((own3.store3 (q := w.heap.size) (o := 0) hz (.int .i64 0)).store3 (q := w.heap.size) (o := 1) hz (.slice a2 m2 c2)).store3 (q := w.heap.size) (o := 2) hz (.slice (some ⟨w2.heap.size + 1, 0, none⟩) 1 1)
        generalize hW : ((w2.setCell ⟨w.heap.size, 0, none⟩ (.int .i64 0)).setCell ⟨w.heap.size, 1, none⟩ (.slice a2 m2 c2)).setCell ⟨w.heap.size, 2, none⟩ (.slice (some ⟨w2.heap.size + 1, 0, none⟩) 1 1) = W at own4 ⊢
        have hsz : W.heap.size = w2.heap.size := by rw [← hW]; simp
        have k2 := (Below.refl W.heap.size W).alloc (Nat.le_refl _) (.cells #[.int .i64 2, .int .i64 tx, .int .i64 key, .bool bh, .int .i64 bv, .bool true, .int .i64 v] 63)
        exact (OwnU.make own4 k2 ⟨2, tx, key, bh, bv, true, v⟩ (H := w2.heap.size + 1) (by simp; omega) (by omega)).base (Nat.le_of_lt hz)
      · exact Below.alloc (Below.alloc (((bF.setCell (p := ⟨w.heap.size, 0, none⟩) (Nat.le_refl _) _).setCell (p := ⟨w.heap.size, 1, none⟩) (Nat.le_refl _) _).setCell (p := ⟨w.heap.size, 2, none⟩) (Nat.le_refl _) _) (by simp; omega) _) (by simp; omega) _
    · go_enter Tryz.func9, Tryz.ntmps9
      go_wp2_with fail
      refine (LI _ (h.below b0)).mono ?_
      rintro e w1 ⟨rfl, b1⟩
      obtain ⟨x0, x1, x2, f0, f1, f2⟩ := three_box b1
      have hz := lt_of_cell x0
      have bE := b0.trans (b1.mono b0.size)
      clear b1 LI
      go_wp2_with fail
      refine (IT _).mono ?_
      rintro e w' ⟨rfl, rfl⟩
      go_wp2_with fail
      refine (IK _).mono ?_
      rintro e w' ⟨rfl, rfl⟩
      go_wp2_with fail
      refine (IV _).mono ?_
      rintro e w' ⟨rfl, rfl⟩
      go_wp2_with fail
      refine (SI _ (h.below bE)).mono ?_
      rintro e w2 ⟨a2, m2, c2, rfl, own2, b2⟩
      replace x0 := keep_cell b2 x0
      replace x1 := keep_cell b2 x1
      replace x2 := keep_cell b2 x2
      replace f0 := ((bcell b2).2 w.heap.size 0 hz).trans f0
      replace f1 := ((bcell b2).2 w.heap.size 1 hz).trans f1
      replace f2 := ((bcell b2).2 w.heap.size 2 hz).trans f2
      have hz2 := lt_of_cell x0
      have z2 := b2.size
      have bF := bE.trans (b2.mono bE.size)
      have hz4 : w.heap.size < w2.heap.size + 1 := by omega
      have hz5 : w.heap.size < w2.heap.size + 1 + 1 := by omega
      clear SI b2
      go_wp2
      refine bodyPost_ret (v := .agg #[.int .i64 0, .slice a2 m2 c2, .slice (some ⟨w2.heap.size + 1, 0, none⟩) 1 1]) (by simp [results, Tryz.results9, go_sem, x0, x1, x2, hz2, hz4]) rfl ⟨a2, m2, c2, _, 1, 1, by rw [HX0.out], ?_, ?_⟩
      · rw [HX0.out, HR.out]
        obtain ⟨vs, own3⟩ := own2.told
        have own4 := ((own3.store3 (q := w.heap.size) (o := 0) hz (.int .i64 0)).store3 (q := w.heap.size) (o := 1) hz (.slice a2 m2 c2)).store3 (q := w.heap.size) (o := 2) hz (.slice (some ⟨w2.heap.size + 1, 0, none⟩) 1 1)
        generalize hW : ((w2.setCell ⟨w.heap.size, 0, none⟩ (.int .i64 0)).setCell ⟨w.heap.size, 1, none⟩ (.slice a2 m2 c2)).setCell ⟨w.heap.size, 2, none⟩ (.slice (some ⟨w2.heap.size + 1, 0, none⟩) 1 1) = W at own4 ⊢
        have hsz : W.heap.size = w2.heap.size := by rw [← hW]; simp
        have k2 := (Below.refl W.heap.size W).alloc (Nat.le_refl _) (.cells #[.int .i64 2, .int .i64 tx, .int .i64 key, .bool bh, .int .i64 bv, .bool false, .int .i64 v] 63)
        exact (OwnU.make own4 k2 ⟨2, tx, key, bh, bv, false, v⟩ (H := w2.heap.size + 1) (by simp; omega) (by omega)).base (Nat.le_of_lt hz)
      · exact Below.alloc (Below.alloc (((bF.setCell (p := ⟨w.heap.size, 0, none⟩) (Nat.le_refl _) _).setCell (p := ⟨w.heap.size, 1, none⟩) (Nat.le_refl _) _).setCell (p := ⟨w.heap.size, 2, none⟩) (Nat.le_refl _) _) (by simp; omega) _) (by simp; omega) _
  · replace HX1 := hid (HX1.out yc rfl (by simpa using hy))
    clear HX0
    have hyc : (yc != 0) = true := by simpa using hy
    have hcase : has = true ∨ (has = false ∧ (v != 0) = false) := by cases has <;> simp_all
    rcases hcase with rfl | ⟨rfl, hv0⟩
    · go_enter Tryz.func9, Tryz.ntmps9
      go_wp2_with fail
      refine (LI _ (h.below b0)).mono ?_
      rintro e w1 ⟨rfl, b1⟩
      obtain ⟨x0, x1, x2, f0, f1, f2⟩ := three_box b1
      have hz := lt_of_cell x0
      have bE := b0.trans (b1.mono b0.size)
      clear b1 LI
      go_wp2_with fail
      refine (IT _).mono ?_
      rintro e w' ⟨rfl, rfl⟩
      go_wp2_with fail
      refine (IK _).mono ?_
      rintro e w' ⟨rfl, rfl⟩
      go_wp2_with fail
      refine (IV _).mono ?_
      rintro e w' ⟨rfl, rfl⟩
      go_wp2_with fail
      refine (SI _ (h.below bE)).mono ?_
      rintro e w2 ⟨a2, m2, c2, rfl, own2, b2⟩
      replace x0 := keep_cell b2 x0
      replace x1 := keep_cell b2 x1
      replace x2 := keep_cell b2 x2
      replace f0 := ((bcell b2).2 w.heap.size 0 hz).trans f0
      replace f1 := ((bcell b2).2 w.heap.size 1 hz).trans f1
      replace f2 := ((bcell b2).2 w.heap.size 2 hz).trans f2
      have hz2 := lt_of_cell x0
      have bF := bE.trans (b2.mono bE.size)
      clear SI b2 own2
      go_wp2
      refine bodyPost_ret (v := .agg #[.int .i64 yc, .slice none 0 0, .slice none 0 0]) (by simp [results, Tryz.results9, go_sem, x0, x1, x2, hz2]) rfl ⟨none, 0, 0, none, 0, 0, by rw [HX1.out], ?_, ?_⟩
      · rw [HX1.out]
        exact OwnU.none _ _
      · exact Below.alloc (((bF.setCell (p := ⟨w.heap.size, 0, none⟩) (Nat.le_refl _) _).setCell (p := ⟨w.heap.size, 1, none⟩) (Nat.le_refl _) _).setCell (p := ⟨w.heap.size, 2, none⟩) (Nat.le_refl _) _) (by simp; omega) _
    · go_enter Tryz.func9, Tryz.ntmps9
      go_wp2_with fail
      refine (LI _ (h.below b0)).mono ?_
      rintro e w1 ⟨rfl, b1⟩
      obtain ⟨x0, x1, x2, f0, f1, f2⟩ := three_box b1
      have hz := lt_of_cell x0
      have bE := b0.trans (b1.mono b0.size)
      clear b1 LI
      go_wp2_with fail
      refine (IT _).mono ?_
      rintro e w' ⟨rfl, rfl⟩
      go_wp2_with fail
      refine (IK _).mono ?_
      rintro e w' ⟨rfl, rfl⟩
      go_wp2_with fail
      refine (IV _).mono ?_
      rintro e w' ⟨rfl, rfl⟩
      go_wp2_with fail
      refine (SI _ (h.below bE)).mono ?_
      rintro e w2 ⟨a2, m2, c2, rfl, own2, b2⟩
      replace x0 := keep_cell b2 x0
      replace x1 := keep_cell b2 x1
      replace x2 := keep_cell b2 x2
      replace f0 := ((bcell b2).2 w.heap.size 0 hz).trans f0
      replace f1 := ((bcell b2).2 w.heap.size 1 hz).trans f1
      replace f2 := ((bcell b2).2 w.heap.size 2 hz).trans f2
      have hz2 := lt_of_cell x0
      have bF := bE.trans (b2.mono bE.size)
      clear SI b2 own2
      go_wp2
      refine bodyPost_ret (v := .agg #[.int .i64 yc, .slice none 0 0, .slice none 0 0]) (by simp [results, Tryz.results9, go_sem, x0, x1, x2, hz2]) rfl ⟨none, 0, 0, none, 0, 0, by rw [HX1.out], ?_, ?_⟩
      · rw [HX1.out]
        exact OwnU.none _ _
      · exact Below.alloc (((bF.setCell (p := ⟨w.heap.size, 0, none⟩) (Nat.le_refl _) _).setCell (p := ⟨w.heap.size, 1, none⟩) (Nat.le_refl _) _).setCell (p := ⟨w.heap.size, 2, none⟩) (Nat.le_refl _) _) (by simp; omega) _
end Go.Proofs.YthfanfnbjldddaaGreat

