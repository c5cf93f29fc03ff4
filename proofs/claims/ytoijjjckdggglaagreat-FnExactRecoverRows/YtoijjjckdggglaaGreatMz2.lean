/- Several texts in one: LosS, LosB, RdF, RdG. -/
import Derived.Test.YtoijjjckdggglaaGreatProg
import Derived.Shelf.SortM.Plain
import Derived.Shelf.SortM.SortNone
import Derived.Shelf.SlGeneric
import Derived.Ground.SlgmProg
import Derived.Sort.OwnSortedInts
import Derived.Test.YtoijjjckdggglaaGreatLosA
import Derived.Test.YtoijjjckdggglaaGreatRvC
import Derived.Test.YtoijjjckdggglaaGreatRdE
import Derived.Test.YtoijjjckdggglaaGreatMz0
import Derived.Maps.OwnIn


/- slices.Sort of numbers: the shelf's contract, laid. -/
namespace Go.Proofs
open Go.Shelf Go.Sort Go.RowKit
namespace YtoijjjckdggglaaGreat
shelf_lay_g SlLaysM.n5 Slgm 5 at Tryz 56 as Tryz.sortInts

end YtoijjjckdggglaaGreat
end Go.Proofs


/- losersIn of the program: a range over the map, then a sort. -/
namespace Go.Proofs.YtoijjjckdggglaaGreat
open Go.RowKit Go.Maps Go.Sort

theorem gr_belowV {w w' : World} (h : Below w.heap.size w w') (row : Option Nat) : w.grownBy w' row := ⟨h.os, h.tape, h.output, h.size, fun k hk _ => h.block k hk⟩

theorem lost_any (fb fe : Bool) (fn : Int) (w : World) :
    Calls Tryz.prog 55 #[.agg #[.bool fb, .bool fe, .int .i64 fn]] w fun e w' => e = .returned (.bool (Ch.Ft.lost ⟨fb, fe, fn⟩)) ∧ Below w.heap.size w w' := by
  cases fb <;> cases fe
  all_goals
    go_enter Tryz.func55, Tryz.ntmps55
    go_wp2
    go_ret
    exact ⟨rfl, (Below.refl _ _).alloc (Nat.le_refl _) _⟩

theorem sortI_any (base g n cap : Nat) (zs : List Int) (w : World) (hrow : w.ownsRow base 2 1 (.slice (some ⟨g, 0, none⟩) n cap) n (icells zs)) (hn : n ≤ 1048576) :
    Calls Tryz.prog 56 #[.slice (some ⟨g, 0, none⟩) n cap] w fun e w' => e = .returned (.tuple #[]) ∧ w'.ownsRow base 2 1 (.slice (some ⟨g, 0, none⟩) n cap) n (icells (zs.mergeSort fun x y => decide (x ≤ y))) ∧ w.grownBy w' (some g) := by
  have hl : n = zs.length := by have := hrow.1; rw [icells_len] at this; omega
  subst hl
  rcases hrow.2 with ⟨hnil, _⟩ | ⟨g', cap', cur, hv, hbase, hb, h1, h2, h3, h4⟩
  · cases hnil
  cases hv
  have hH : Holds (Value.int .i64) w g 0 zs.toArray := holds_of_blockI hb (by rw [Nat.mul_one] at h4; exact h4)
  have hg : g < w.heap.size := (Array.getElem?_eq_some_iff.1 hb).1
  have hcon := AnyM.slices_Sort_int Tryz.sortInts g 0 cap zs w hH hg (by omega)
  change Calls Tryz.prog 56 _ _ _ at hcon
  refine hcon.mono ?_
  rintro e w' ⟨rfl, nn, os, rfl⟩
  exact ⟨rfl, ownsRow_sortedI (by simp) hbase hb h1 h2 h3, grownBy_sortedI _⟩

theorem sortN_any (p : Option Addr) (cap : Nat) (w : World) :
    Calls Tryz.prog 56 #[.slice p 0 cap] w fun e w' => e = .returned (.tuple #[]) ∧ w' = w := by
  have hcon := AnyM.slices_Sort_int_none Tryz.sortInts p cap w
  change Calls Tryz.prog 56 _ _ _ at hcon
  exact hcon

/-- What has come of the map so far. -/
structure CollF (F : Int → Ch.Ft) (left : Lit → Bool) (zs : List Int) : Prop where
  nd : zs.Nodup
  mem : ∀ t, t ∈ zs ↔ (F t).lost = true ∧ left (kF t) = false
theorem CollF.start {F : Int → Ch.Ft} {D : DataW Unit} (h : Fm F D) : CollF F (Maps.has D) [] := by
  refine ⟨List.nodup_nil, fun t => ?_⟩
  constructor
  · intro h; simp at h
  · rintro ⟨h1, h2⟩
    rw [h.none h2] at h1
    simp [Ch.Ft.lost, Ch.Ft.zero] at h1
theorem CollF.yes {F : Int → Ch.Ft} {left : Lit → Bool} {zs : List Int} (h : CollF F left zs) {t : Int} (hl : left (kF t) = true) (hF : (F t).lost = true) : CollF F (fun z => left z && !z.sameKey (kF t)) (zs ++ [t]) := by
  have hnew : t ∉ zs := fun hx => by have := ((h.mem t).1 hx).2; rw [hl] at this; cases this
  refine ⟨List.nodup_append.2 ⟨h.nd, by simp, fun a ha b hb => by simp at hb; subst hb; exact fun e1 => hnew (e1 ▸ ha)⟩, fun s => ?_⟩
  by_cases e : s = t
  · subst e
    rw [WideAt.sameKey_self (kF_isKey _)]
    simp [hF]
  · have hne : kF s ≠ kF t := kF_ne e
    rw [sameKey_ne hne]
    simp [h.mem s, e]
theorem CollF.no {F : Int → Ch.Ft} {left : Lit → Bool} {zs : List Int} (h : CollF F left zs) {t : Int} (hF : (F t).lost = false) : CollF F (fun z => left z && !z.sameKey (kF t)) zs := by
  refine ⟨h.nd, fun s => ?_⟩
  by_cases e : s = t
  · subst e
    rw [h.mem s, hF]
    simp
  · have hne : kF s ≠ kF t := kF_ne e
    rw [sameKey_ne hne]
    simp [h.mem s]
theorem CollF.done {F : Int → Ch.Ft} {left : Lit → Bool} {zs L : List Int} (h : CollF F left zs) (hl : ∀ kl, left kl = false) (hL : L.Pairwise (· < ·)) (hm : ∀ t, t ∈ L ↔ (F t).lost = true) : (zs.mergeSort fun x y => decide (x ≤ y)) = L :=
  Ch.sort_is h.nd hL (fun t => by rw [h.mem t, hm t]; simp [hl])

set_option linter.unusedSimpArgs false in
set_option maxRecDepth 20000 in
set_option maxHeartbeats 4000000 in
theorem losers_any (b q : Nat) (D : DataW Unit) (F : Int → Ch.Ft) (L : List Int) (w : World) (own : w.ownsMap Tryz.prog 2 ftElem b q D) (mp : Fm F D) (hq : q ≤ 1048576) (hL : L.Pairwise (· < ·)) (hm : ∀ t, t ∈ L ↔ (F t).lost = true) :
    Calls Tryz.prog 37 #[.map (some b)] w fun e w' => ∃ a n cap, e = .returned (.slice a n cap) ∧ n ≤ 1048576 ∧ w'.ownsRow w.heap.size 2 1 (.slice a n cap) n (icells L) ∧ Below w.heap.size w w' := by
  obtain ⟨i0, hi0, hz0, hz1, hz2⟩ := info_parts Tryz.info2
  have hbl := own.lt
  have hq : Maps.size D ≤ 1048576 := Nat.le_trans own.size_le hq
  have HMP := hid mp
  have HD := hid (fun (left : Lit → Bool) (zs : List Int) (h : CollF F left zs) (hl : ∀ kl, left kl = false) => h.done hl hL hm)
  clear mp hL hm
  go_enter Tryz.func37, Tryz.ntmps37
  go_wp2_with (at_range; go_must (refine wpList_range_own _ rfl _ 62 rfl 2 84 Tryz.keyedF Tryz.underlying62 ftElem b q D rfl own ?_; intro w0 hrg0 hg0 hs0))
  go_frame
  have b0 : Below w.heap.size w w0 := (Below.refl _ _).grown hg0 (Nat.le_refl _) (fun j hj => by cases hj)
  have hsz0 : w.heap.size < w0.heap.size := by omega
  clear hs0
  go_loopw [3] (fun v wr => ∃ (left : Lit → Bool) (cnt n : Nat) (ss : List Int) (a : Option Addr) (cap : Nat), v = .slice a n cap ∧ wr.ranges Tryz.prog 2 ftElem b w.heap.size q D left cnt ∧ n + cnt ≤ Maps.size D ∧
      wr.ownsRow (w.heap.size + 1) 2 1 (.slice a n cap) n (icells ss) ∧ CollF F left ss ∧ w.heap.size < wr.heap.size ∧ Below w.heap.size w wr)
    (fun _ wr => wr.rangeLeft b w.heap.size)
  case atStart => exact ⟨_, _, 0, [], none, 0, rfl, hrg0, by omega, World.ownsRow_nil _ _ _ _, CollF.start HMP.out, hsz0, b0⟩
  case round =>
    clear hrg0 hg0 b0 hsz0
    obtain ⟨left, cnt, n, ss, a, cap, rfl, hrg, hcs, hrow, hC, hsz, hnx⟩ := hrel
    go_wp2_with (at_next; go_must (refine wpList_next_ranges _ rfl _ rfl 2 Tryz.keyedF ftElem id id (fun key _ _ => ⟨key, rfl⟩) (fun v _ _ => ⟨v, rfl⟩) b w.heap.size q _ _ _ rfl hrg ?_ ?_))
    · intro hc0 hl0
      have HS := hid (HD.out left ss hC hl0)
      clear HD
      rcases hrow.2 with ⟨hnil, _⟩ | ⟨g, cap', cur, hv, _⟩
      · cases hnil
        obtain rfl : ss = [] := by
          have := hrow.1
          rw [icells_len] at this
          exact List.eq_nil_of_length_eq_zero (by omega)
        replace HS : Hid ([] = L) := by have h1 := HS.out; rw [List.mergeSort_nil] at h1; exact h1
        go_wp2_with (go_at_call 56; refine (sortN_any _ _ _).mono ?_; rintro e w' ⟨rfl, rfl⟩)
        go_ret
        exact ⟨none, 0, 0, rfl, by omega, by rw [← HS.out]; exact World.ownsRow_nil _ _ _ _, hnx⟩
      · cases hv
        have hcon := sortI_any (w.heap.size + 1) g n cap ss wr hrow (by omega)
        have hgb := (owns_bounds hrow).1
        rw [HS.out] at hcon
        go_wp2_with (go_at_call 56; refine hcon.mono ?_; rintro e w' ⟨rfl, own', gr'⟩)
        go_ret
        exact ⟨_, n, cap, rfl, by omega, owns_base own' (by omega), hnx.grown gr' hnx.size (fun j hj => by cases hj; omega)⟩
    · intro x c kl yd yp w2 cnt2 hkey hlk hv hat hrg2 hlt hg2 hs2 hen
      obtain ⟨et, rfl, rfl, _⟩ := Maps.keyOf_int_inv Tryz.underlying2 hkey
      have hF : ftElem c = some (ftD (F et), yp) := by
        have e1 := hat (ftD Ch.Ft.zero)
        rw [show (Lit.int .i64 et) = kF et from rfl, HMP.out.at' et] at e1
        rw [e1]
        exact hv
      have hc := ftElem_inv hF
      have HY := hid (fun hF => hC.yes (t := et) hlk hF)
      have HN := hid (fun hF => hC.no (t := et) hF)
      have hrow2 := hrow.kept hg2 (Or.inr (row_ne_iter hrow hrg).symm)
      have hnx2 := hnx.grown hg2 hnx.size (fun j hj => by cases hj; exact Nat.le_refl _)
      have hsz2 : w.heap.size < w2.heap.size := by omega
      clear hs2 hkey hv hat hrow hC hF HD
      generalize F et = f at *
      obtain ⟨fb, fe, fn⟩ := f
      simp only at hc
      subst hc
      have IL := fun W => lost_any fb fe fn W
      have kQ : Below w2.heap.size w2 (w2.alloc (.cells #[.bool fb, .bool fe, .int .i64 fn] 84)) := (Below.refl _ _).alloc (Nat.le_refl _) _
      have own3 := owns_below hrow2 kQ
      have hrg3 := hrg2.alloc (.cells #[.bool fb, .bool fe, .int .i64 fn] 84)
      have hnx3 := hnx2.trans (kQ.mono hnx2.size)
      have hsz3 := kQ.size
      generalize HLB : Ch.Ft.lost ⟨fb, fe, fn⟩ = lb at *
      go_wp2_with fail
      refine (IL _).mono ?_
      rintro e w4 ⟨rfl, b4⟩
      have own4 := owns_below own3 b4
      have gr4 := gr_belowV b4 none
      have hrg4 := hrg3.kept gr4 (by simp) (by simp)
      have hnx4 := hnx3.trans (b4.mono hnx3.size)
      have hsz4 : w.heap.size < w4.heap.size := by have := b4.size; omega
      clear own3 hrg3 hnx3 IL
      cases lb
      · go_wp2
        go_roundw
        case rel => exact ⟨_, cnt2, n, ss, a, cap, rfl, hrg4, by omega, own4, HN.out trivial, hsz4, hnx4⟩
        case measure => rw [hrg4.left_eq, hrg.left_eq]; exact hlt
      · have kR : Below w4.heap.size w4 (w4.alloc (.cells #[.int .i64 et] 2)) := (Below.refl _ _).alloc (Nat.le_refl _) _
        have own5 := owns_below own4 kR
        have hrg5 := hrg4.alloc (.cells #[.int .i64 et] 2)
        have hC5 := new_int w4 et 2
        have hb5 : w.heap.size + 1 ≤ (w4.alloc (.cells #[.int .i64 et] 2)).heap.size := by simp; omega
        have hnx5 := hnx4.trans (kR.mono hnx4.size)
        have hsz5 : w.heap.size < (w4.alloc (.cells #[.int .i64 et] 2)).heap.size := by simp; omega
        go_wp2_with (at_builtin; go_must (refine wpList_appX Tryz.underlying25 Tryz.underlying25 hi0 hz0 hz1 hz2 rfl (by omega) (by omega) (.tmp 15) (.tmp 17) ?_ ?_ (w.heap.size + 1) (.slice a n cap) n (icells ss) _ 1 1 (icells [et]) ?_ ?_ own5 hC5 (icells_one' [et]) (by omega) hb5 ?_; exact rfl; exact rfl; exact rfl; exact rfl; intro a6 c6 w6 own6 gr6 at6; go_frame))
        have hrg6 := hrg5.kept gr6 (row_ne_low own5 (by omega)) (row_ne_iter own5 hrg5)
        go_roundw
        case rel => exact ⟨_, cnt2, n + 1, ss ++ [et], a6, c6, rfl, hrg6, by omega, by rw [icells_append]; exact own6, HY.out trivial, Nat.lt_of_lt_of_le hsz5 gr6.size, hnx5.grown gr6 hnx5.size (fun g hg => by have := (owns_lt own5 g hg).1; omega)⟩
        case measure => rw [hrg6.left_eq, hrg.left_eq]; exact hlt
end Go.Proofs.YtoijjjckdggglaaGreat


/- takeBack of the program. -/
namespace Go.Proofs.YtoijjjckdggglaaGreat
open Go.RowKit Go.Shelf Go.Maps

attribute [local go_sem] Oper.semAt_some

theorem wpListIn_lookF {F : Fence} {nF : Nat} {ops : Array Oper} {rest : List Oper} {o : Oper} {a : Act} {w : World} {Q : Exit → Act → World → Prop} (m x : Operand) (B N : Nat) (D : DataW Unit) (t : Int) (fb fe : Bool) (fn : Int)
    (hop : o.op = Op.lookup 62 m x false) (hg : o.guard = none) (hm : a.eval m = .map (some B)) (hx : a.eval x = .int .i64 t) (hown : w.ownsMap Tryz.prog 2 ftElem B N D) (ht : 1 ≤ t ∧ t ≤ 999)
    (hat : D.atKey (kF t) (ftD Ch.Ft.zero) = ftD ⟨fb, fe, fn⟩) (hK : wpListIn F nF Tryz.prog ops Q rest (a.put o.dst (.agg #[.bool fb, .bool fe, .int .i64 fn])) w) : wpListIn F nF Tryz.prog ops Q (o :: rest) a w := by
  refine wpListIn_plain hg fun K' hK' => ?_
  obtain ⟨v, ps, hrun, hv⟩ := hown.lookup Tryz.keyedF Tryz.underlying62 (Tryz.zeroFate w) (ftElem_mk false false 0) (kF_key ht)
  rw [show (ftD ⟨false, false, 0⟩ : DataW Unit) = ftD Ch.Ft.zero from rfl, hat] at hv
  rw [ftElem_inv hv] at hrun
  unfold Oper.wpIn
  refine ⟨by simp [Oper.about, hop], ?_⟩
  rw [Oper.semAt_plain F _ _ (by rw [hop]; intro c hc'; cases hc')]
  simp [execOp, hop, hm, hx, hrun, Result.andThen]
  exact hK' _ _ hK

/-- Nothing that lay has turned but two blocks. -/
structure Two (w w' : World) (p q : Nat) : Prop where
  os : w'.os = w.os
  tape : w'.tape = w.tape
  output : w'.output = w.output
  size : w.heap.size ≤ w'.heap.size
  block : ∀ k, k < w.heap.size → k ≠ p → k ≠ q → w'.heap[k]? = w.heap[k]?
theorem Two.refl (w : World) (p q : Nat) : Two w w p q := ⟨rfl, rfl, rfl, Nat.le_refl _, fun _ _ _ _ => rfl⟩
theorem Two.gr {w W W' : World} {p q : Nat} (h : Two w W p q) {row : Option Nat} (hg : W.grownBy W' row) (hr : ∀ r, row = some r → r = p ∨ r = q ∨ w.heap.size ≤ r) : Two w W' p q :=
  ⟨hg.os.trans h.os, hg.tape.trans h.tape, hg.output.trans h.output, Nat.le_trans h.size hg.size, fun k hk h1 h2 => (hg.block k (Nat.lt_of_lt_of_le hk h.size) (fun e => by rcases hr k e.symm with e1 | e1 | e1 <;> omega)).trans (h.block k hk h1 h2)⟩
theorem Two.below {w W : World} {p q : Nat} (h : Two w W p q) {B : Nat} {u : World} (hB : Below B u w) (hp : B ≤ p) (hq : B ≤ q) (hs : B ≤ w.heap.size) : Below B u W :=
  hB.trans ⟨h.os, h.tape, h.output, h.size, fun k hk => h.block k (by omega) (by omega) (by omega)⟩
theorem cellsN {W W' : World} {a : Option Addr} {m : Nat} {xs : List Value} (h : CellsAt W a m xs) {row : Option Nat} (hg : W.grownBy W' row) (hr : 0 < m → ∀ b off, a = some ⟨b, off, none⟩ → row ≠ some b) : CellsAt W' a m xs := by
  refine ⟨h.1, fun hp => ?_⟩
  obtain ⟨b, off, ha, hc⟩ := h.2 hp
  refine ⟨b, off, ha, fun i hi => ?_⟩
  have := hc i hi
  have hl : i < xs.length := by rw [h.1]; exact hi
  rw [List.getElem?_eq_getElem hl] at this ⊢
  exact grown_cell hg this (hr hp b off ha)
theorem KpC.gr {a : Option Addr} {n : Nat} {rs : List Ch.Rec} {Bn : Nat} {W W' : World} {row : Option Nat} (hg : W.grownBy W' row) (h1 : row ≠ some Bn) (h2 : 0 < n → ∀ b off, a = some ⟨b, off, none⟩ → row ≠ some b) : KpC a n rs Bn W W' :=
  ⟨fun h => cellsN h hg (fun h0 => h2 (by omega)), fun _ hv => grown_cell hg hv h1⟩

def Ch.fOf (F : Int → Ch.Ft) (st : Ch.Bs) (t : Int) : Ch.Ft := ⟨(F t).bg, (F t).en, st.b t⟩
def Ch.lostOf (F : Int → Ch.Ft) (t : Int) : Bool := (F t).lost

/-- What a round of takeBack finds. -/
structure TbI (w : World) (p mb N : Nat) (F : Int → Ch.Ft) (st0 : Ch.Bs) (pre : List FRec) (W : World) : Prop where
  sl : Slt W p (Ch.backTo (Ch.lostOf F) st0 (recsB pre)).s
  mp : ∃ N' D', N' ≤ N + pre.length ∧ W.ownsMap Tryz.prog 2 ftElem mb N' D' ∧ Fm (Ch.fOf F (Ch.backTo (Ch.lostOf F) st0 (recsB pre))) D'
  c3 : W.cell? ⟨w.heap.size, 0, none⟩ = some (.pointer (some ⟨p, 0, none⟩))
  c4 : W.cell? ⟨w.heap.size + 1, 0, none⟩ = some (.map (some mb))
  two : Two w W p mb
  sz : w.heap.size + 3 ≤ W.heap.size
theorem TbI.far {w : World} {p mb N : Nat} {F : Int → Ch.Ft} {st0 : Ch.Bs} {pre : List FRec} {A B : World} {row : Option Nat} (h : TbI w p mb N F st0 pre A) (hg : A.grownBy B row) (hmb : mb < w.heap.size) (hp : p < w.heap.size) (hr : ∀ r, row = some r → w.heap.size + 3 ≤ r) : TbI w p mb N F st0 pre B := by
  obtain ⟨N', D', h1, h2, h3⟩ := h.mp
  exact ⟨h.sl.keep hg (fun e => by have := hr p e; omega), ⟨N', D', h1, h2.kept hg (fun e => by have := hr mb e.symm; omega), h3⟩, grown_cell hg h.c3 (fun e => by have := hr _ e; omega), grown_cell hg h.c4 (fun e => by have := hr _ e; omega), h.two.gr hg (fun r e => .inr (.inr (by have := hr r e; omega))), Nat.le_trans h.sz hg.size⟩

theorem TbI.same {w : World} {p mb N : Nat} {F : Int → Ch.Ft} {st0 : Ch.Bs} {pre : List FRec} {W : World} (h : TbI w p mb N F st0 pre W) (x : FRec) (hst : Ch.back1 (Ch.lostOf F) (Ch.backTo (Ch.lostOf F) st0 (recsB pre)) x.1.2 = Ch.backTo (Ch.lostOf F) st0 (recsB pre)) : TbI w p mb N F st0 (pre ++ [x]) W := by
  have e : Ch.backTo (Ch.lostOf F) st0 (recsB (pre ++ [x])) = Ch.backTo (Ch.lostOf F) st0 (recsB pre) := by rw [recsB_snoc, Ch.backTo_snoc, hst]
  obtain ⟨N', D', h1, h2, h3⟩ := h.mp
  exact ⟨by rw [e]; exact h.sl, ⟨N', D', by simp; omega, h2, by rw [e]; exact h3⟩, h.c3, h.c4, h.two, h.sz⟩
theorem TbI.map {w : World} {p mb N : Nat} {F : Int → Ch.Ft} {st0 : Ch.Bs} {pre : List FRec} {W W' : World} (h : TbI w p mb N F st0 pre W) (x : FRec) (hg : W.grownBy W' (some mb)) (hmb : mb < w.heap.size) (hpm : p ≠ mb) {st : Ch.Bs} (hst : Ch.back1 (Ch.lostOf F) (Ch.backTo (Ch.lostOf F) st0 (recsB pre)) x.1.2 = st) (hs : st.s = (Ch.backTo (Ch.lostOf F) st0 (recsB pre)).s)
    {N2 : Nat} {D2 : DataW Unit} (h1 : N2 ≤ N + pre.length + 1) (h2 : W'.ownsMap Tryz.prog 2 ftElem mb N2 D2) (h3 : Fm (Ch.fOf F st) D2) : TbI w p mb N F st0 (pre ++ [x]) W' := by
  have e : Ch.backTo (Ch.lostOf F) st0 (recsB (pre ++ [x])) = st := by rw [recsB_snoc, Ch.backTo_snoc, hst]
  refine ⟨by rw [e, hs]; exact h.sl.keep hg (by simpa using fun e => hpm e.symm), ⟨N2, D2, by simp; omega, h2, by rw [e]; exact h3⟩, grown_cell hg h.c3 (by simp; omega), grown_cell hg h.c4 (by simp; omega), h.two.gr hg (fun r e => by cases e; exact .inr (.inl rfl)), Nat.le_trans h.sz hg.size⟩
theorem TbI.slot {w : World} {p mb N : Nat} {F : Int → Ch.Ft} {st0 : Ch.Bs} {pre : List FRec} {W W' : World} (h : TbI w p mb N F st0 pre W) (x : FRec) (hg : W.grownBy W' (some p)) (hp : p < w.heap.size) (hpm : p ≠ mb) {st : Ch.Bs} (hst : Ch.back1 (Ch.lostOf F) (Ch.backTo (Ch.lostOf F) st0 (recsB pre)) x.1.2 = st) (hs : st.b = (Ch.backTo (Ch.lostOf F) st0 (recsB pre)).b)
    (hS : Slt W' p st.s) : TbI w p mb N F st0 (pre ++ [x]) W' := by
  have e : Ch.backTo (Ch.lostOf F) st0 (recsB (pre ++ [x])) = st := by rw [recsB_snoc, Ch.backTo_snoc, hst]
  obtain ⟨N', D', h1, h2, h3⟩ := h.mp
  refine ⟨by rw [e]; exact hS, ⟨N', D', by simp; omega, h2.kept hg (by simpa using fun e => hpm e.symm), ?_⟩, grown_cell hg h.c3 (by simp; omega), grown_cell hg h.c4 (by simp; omega), h.two.gr hg (fun r e => by cases e; exact .inl rfl), Nat.le_trans h.sz hg.size⟩
  rw [e]
  unfold Ch.fOf at h3 ⊢
  rw [hs]
  exact h3
theorem heap_alloc_at (w : World) {o : Obj} {g : Nat} (h : g = w.heap.size) : (w.alloc o).heap[g]? = some o := by subst h; exact heap_alloc_new w o
theorem Ch.back_skip {L : Int → Bool} {st : Ch.Bs} {r : Ch.Rec} (h : (r.kd != 2 || !L r.tx) = true) : Ch.back1 L st r = st := if_pos h
theorem Ch.back_less {L : Int → Bool} {st : Ch.Bs} {r : Ch.Rec} (h : (r.kd != 2 || !L r.tx) = false) (h0 : 0 < st.b r.tx) : Ch.back1 L st r = ⟨st.s, fun t => if t = r.tx then st.b t - 1 else st.b t⟩ := by
  unfold Ch.back1; rw [h, if_neg (by simp), if_pos h0]
theorem Ch.back_set {L : Int → Bool} {st : Ch.Bs} {r : Ch.Rec} (h : (r.kd != 2 || !L r.tx) = false) (h0 : ¬ 0 < st.b r.tx) : Ch.back1 L st r = ⟨st.s.set r.ky (Ch.optV r.hd r.ol), st.b⟩ := by
  unfold Ch.back1; rw [h, if_neg (by simp), if_neg h0]
theorem rec_cells {W : World} {g : Nat} {r : Ch.Rec} {t : TypeId} (h : W.heap[g]? = some (.cells (c7 r).toArray t (0, 0))) : At7 W g 0 r :=
  ⟨cell_of_row _ _ _ _ _ _ h, cell_of_row _ _ _ _ _ _ h, cell_of_row _ _ _ _ _ _ h, cell_of_row _ _ _ _ _ _ h, cell_of_row _ _ _ _ _ _ h, cell_of_row _ _ _ _ _ _ h, cell_of_row _ _ _ _ _ _ h⟩
theorem fate_cells {W : World} {g : Nat} {x y z : Value} {t : TypeId} (h : W.heap[g]? = some (.cells #[x, y, z] t (0, 0))) : W.cell? ⟨g, 0, none⟩ = some x ∧ W.cell? ⟨g, 1, none⟩ = some y ∧ W.cell? ⟨g, 2, none⟩ = some z ∧ W.frozen? ⟨g, 2, none⟩ = false :=
  ⟨cell_of_row _ _ _ _ _ _ h, cell_of_row _ _ _ _ _ _ h, cell_of_row _ _ _ _ _ _ h, by simp [World.frozen?, h]⟩
theorem block_keptV {W W' : World} {row : Option Nat} {g : Nat} {cs : Array Value} {t : TypeId} (h : W.heap[g]? = some (.cells cs t (0, 0))) (hg : W.grownBy W' row) (hr : ∀ r, row = some r → ∃ o : Obj, W.heap[r]? = some o ∧ o.isCells = false) : W'.heap[g]? = some (.cells cs t (0, 0)) := by
  have hlt : g < W.heap.size := (Array.getElem?_eq_some_iff.1 h).1
  rw [hg.block g hlt (fun e => ?_)]
  · exact h
  · obtain ⟨o, ho, hc⟩ := hr g e.symm
    rw [h] at ho
    cases ho
    cases hc

set_option maxRecDepth 100000 in
set_option maxHeartbeats 4000000 in
theorem takeBack_any (p mb N : Nat) (a : Option Addr) (n cap : Nat) (rs : List Ch.Rec) (S : Ch.Sl) (F : Int → Ch.Ft) (D : DataW Unit) (w : World) (h : CellsAt w a (n * 7) (rc7 rs)) (hn : n ≤ 800) (hN : N ≤ 800) (hf : ∀ k, k < rs.length → (rs.getD k Ch.Rec.zero).fault = 0)
    (hS : Slt w p S) (hM : w.ownsMap Tryz.prog 2 ftElem mb N D) (hF : Fm F D) (hb : ∀ t, 0 ≤ (F t).bk ∧ (F t).bk ≤ 800) (hne : 0 < n → ∀ b off, a = some ⟨b, off, none⟩ → b ≠ p ∧ b ≠ mb) :
    Calls Tryz.prog 36 #[.pointer (some ⟨p, 0, none⟩), .map (some mb), .slice a n cap] w fun e w' => e = .returned (.tuple #[]) ∧ Slt w' p (Ch.backTo (Ch.lostOf F) ⟨S, fun t => (F t).bk⟩ rs.reverse).s ∧
      (∃ N' D', N' ≤ 1600 ∧ w'.ownsMap Tryz.prog 2 ftElem mb N' D' ∧ Fm (Ch.fOf F (Ch.backTo (Ch.lostOf F) ⟨S, fun t => (F t).bk⟩ rs.reverse)) D') ∧ Two w w' p mb := by
  have HL := h.len7
  refine (callsIn_wide (n := 6)).1 ?_
  refine callsIn_of_wp_marks Tryz.func36 rfl trivial ?_ rfl
  simp only [Tryz.ntmps36, List.size_toArray, List.length_cons, List.length_nil, Nat.reduceAdd, Nat.reduceSub, Array.replicate_succ, Array.replicate_zero, List.push_toArray, List.append_toArray, List.nil_append, List.cons_append]
  gi_wp2_with fail
  refine ⟨trivial, (callsIn_wide.2 (backward_any a n cap _)).mono ?_⟩
  rintro e w' ⟨rfl, rfl⟩
  gi_wp2_with fail
  have hmb := hM.lt
  have hpl := hS.lt
  have hpm : p ≠ mb := fun e => by
    obtain ⟨es, ck, hh, _⟩ := hM
    unfold Slt at hS
    rw [e, hh] at hS
    cases hS
  have hB0 : Below w.heap.size w (((w.alloc (.cells #[.pointer (some ⟨p, 0, none⟩)] 64)).alloc (.cells #[.map (some mb)] 62)).alloc (.cells #[.slice a n cap] 39)) := by
    refine Below.alloc (Below.alloc (Below.alloc (Below.refl _ w) (Nat.le_refl _) _) ?_ _) ?_ _
    · simp
    · simp; omega
  have hcB : (((w.alloc (.cells #[.pointer (some ⟨p, 0, none⟩)] 64)).alloc (.cells #[.map (some mb)] 62)).alloc (.cells #[.slice a n cap] 39)).cell? ⟨w.heap.size + 1 + 1, 0, none⟩ = some (.slice a n cap) := by
    have := cell_of_row _ (w.heap.size + 1 + 1) 0 #[.slice a n cap] 39 (0, 0) (heap_alloc_at ((w.alloc (.cells #[.pointer (some ⟨p, 0, none⟩)] 64)).alloc (.cells #[.map (some mb)] 62)) (by simp))
    exact this
  have hc3 : (((w.alloc (.cells #[.pointer (some ⟨p, 0, none⟩)] 64)).alloc (.cells #[.map (some mb)] 62)).alloc (.cells #[.slice a n cap] 39)).cell? ⟨w.heap.size, 0, none⟩ = some (.pointer (some ⟨p, 0, none⟩)) := by
    have := cell_of_row _ w.heap.size 0 #[.pointer (some ⟨p, 0, none⟩)] 64 (0, 0) (heap_alloc_at w rfl)
    exact keep_cell (((Below.refl _ _).alloc (Nat.le_refl _) _).alloc (by simp) _) this
  have hc4 : (((w.alloc (.cells #[.pointer (some ⟨p, 0, none⟩)] 64)).alloc (.cells #[.map (some mb)] 62)).alloc (.cells #[.slice a n cap] 39)).cell? ⟨w.heap.size + 1, 0, none⟩ = some (.map (some mb)) := by
    have := cell_of_row _ (w.heap.size + 1) 0 #[.map (some mb)] 62 (0, 0) (heap_alloc_at (w.alloc (.cells #[.pointer (some ⟨p, 0, none⟩)] 64)) (by simp))
    exact keep_cell ((Below.refl _ _).alloc (Nat.le_refl _) _) this
  have hs0 : (((w.alloc (.cells #[.pointer (some ⟨p, 0, none⟩)] 64)).alloc (.cells #[.map (some mb)] 62)).alloc (.cells #[.slice a n cap] 39)).heap.size = w.heap.size + 3 := by simp
  have hC0 := h.below hB0
  have hI0 : TbI w p mb N F ⟨S, fun t => (F t).bk⟩ [] (((w.alloc (.cells #[.pointer (some ⟨p, 0, none⟩)] 64)).alloc (.cells #[.map (some mb)] 62)).alloc (.cells #[.slice a n cap] 39)) := ⟨hS.below hB0, ⟨N, D, by simp, ((hM.alloc _).alloc _).alloc _, hF⟩, hc3, hc4, ⟨hB0.os, hB0.tape, hB0.output, hB0.size, fun k hk _ _ => hB0.block k hk⟩, by omega⟩
  have HBK := hid (fun rs => Ch.backTo_b (L := Ch.lostOf F) (m := 800) rs (st := ⟨S, fun t => (F t).bk⟩) hb)
  generalize hst0 : (⟨S, fun t => (F t).bk⟩ : Ch.Bs) = st0 at *
  generalize hW0 : (((w.alloc (.cells #[.pointer (some ⟨p, 0, none⟩)] 64)).alloc (.cells #[.map (some mb)] 62)).alloc (.cells #[.slice a n cap] 39)) = W0 at *
  have HA : 0 < n → ∀ b off, a = some ⟨b, off, none⟩ → b < w.heap.size := fun h0 b off ha => by
    obtain ⟨b', off', ha', hc'⟩ := h.2 (by omega)
    rw [ha] at ha'
    simp only [Option.some.injEq, Addr.mk.injEq, and_true] at ha'
    obtain ⟨rfl, rfl⟩ := ha'
    obtain ⟨b1, o1, e1, q1, _⟩ := h.rec h0
    rw [ha] at e1
    simp only [Option.some.injEq, Addr.mk.injEq, and_true] at e1
    obtain ⟨rfl, rfl⟩ := e1
    exact lt_of_cell q1
  have HN := hid hne
  clear hne
  have hrl : rs.length ≤ 800 := by have := HL.out; omega
  clear hB0 hc3 hc4 hW0
  refine wpIn_rangeFunc_ownH rfl (by decide) (gf := 74) (lb := #[.pointer (some ⟨w.heap.size + 1 + 1, 0, none⟩)]) rfl trivial (enters_of Tryz.func74 (by kernel_rfl) rfl)
    (back_stops 5 (w.heap.size + 1 + 1) (by decide) a n cap rs W0 hn hf hC0 hcB) KpC.t (fun W l o o' _ ho hc _ => KpC.b W l o o' ho hc) (Below.refl _ _) (fun _ => rfl)
    (TbI w p mb N F st0) (fun _ _ _ => False)
    ?hI (fun _ _ _ _ _ hs _ _ => hs)
    hI0
    (fun x a' W => ∃ Bx, w.heap.size + 3 ≤ Bx ∧ W.heap[Bx]? = some (.cells (c7 x.1.2).toArray 54 (0, 0)) ∧ a' = { tmps := #[.pointer (some ⟨p, 0, none⟩), .map (some mb), .slice a n cap, .pointer (some ⟨w.heap.size, 0, none⟩), .pointer (some ⟨w.heap.size + 1, 0, none⟩), undef, undef, .pointer (some ⟨Bx, 0, none⟩), undef, .slice a n cap, .func (.func 74) #[] #[.pointer (some ⟨w.heap.size + 1 + 1, 0, none⟩)], .int .i64 x.1.1, .agg #[.int .i64 x.1.2.kd, .int .i64 x.1.2.tx, .int .i64 x.1.2.ky, .bool x.1.2.hd, .int .i64 x.1.2.ol, .bool x.1.2.hs, .int .i64 x.1.2.nw], undef, undef, undef, undef, undef, undef, undef, undef, undef, undef, undef, undef, undef, undef, undef, undef, undef, undef, undef, undef, undef, undef, undef, undef, undef, undef, undef, undef, undef, undef, undef, undef, undef], defers := [] })
    ?hAx ?assign ?body ?done ?stop
  case hI =>
    rintro s A B row hI hg hr
    exact hI.far hg hmb hpl (fun r e => by have := (hr r e).1; omega)
  case hAx =>
    rintro x a' s A B row ⟨Bx, hle, hh, he⟩ hg hr
    exact ⟨Bx, hle, block_keptV hh hg (fun r e => (hr r e).2), he⟩
  case assign =>
    rintro l pre x W K hI hK
    simp only [encB]
    have hz := hI.sz
    gi_wp2
    exact hK _ _ ((KeepsOthers.alloc _ _).from _) (KpC.gr (World.grownBy_alloc W _ none) (by simp) (by simp)) (hI.far (World.grownBy_alloc W _ none) hmb hpl (fun r e => by cases e)) ⟨W.heap.size, hz, heap_alloc_new W _, rfl⟩
  case body =>
    rintro l pre x a' W hl ⟨r, hr⟩ hI ⟨Bx, hBx, hX, rfl⟩ hlt
    clear hl hr r
    have hI' := hid hI
    obtain ⟨N', D', hN', own, fm⟩ := hI.mp
    have c3 := hI.c3
    have c4 := hI.c4
    have sl := hI.sl
    have hz := hI.sz
    have HB2 := hid (HBK.out (recsB pre))
    clear hI HBK
    obtain ⟨⟨xi, ⟨kd, tx, ky, hd, ol, hs, nw⟩⟩, fit⟩ := x
    have htx : 1 ≤ tx ∧ tx ≤ 999 := fit.tx
    have hky : 0 ≤ ky ∧ ky ≤ 99 := fit.ky
    obtain ⟨y0, y1, y2, y3, y4, y5, y6⟩ := rec_cells hX
    simp only [Nat.zero_add] at y0 y1 y2 y3 y4 y5 y6
    have hBl := lt_of_cell y0
    have HSK := hid (fun hh => hI'.out.same ⟨(xi, ⟨kd, tx, ky, hd, ol, hs, nw⟩), fit⟩ (Ch.back_skip hh))
    have HSL := hid (fun hh h0 => Ch.back_less (L := Ch.lostOf F) (st := Ch.backTo (Ch.lostOf F) st0 (recsB pre)) (r := ⟨kd, tx, ky, hd, ol, hs, nw⟩) hh h0)
    have HSS := hid (fun hh h0 => Ch.back_set (L := Ch.lostOf F) (st := Ch.backTo (Ch.lostOf F) st0 (recsB pre)) (r := ⟨kd, tx, ky, hd, ol, hs, nw⟩) hh h0)
    have HLO : Hid (Ch.lostOf F tx = Ch.Ft.lost ⟨(F tx).bg, (F tx).en, (Ch.backTo (Ch.lostOf F) st0 (recsB pre)).b tx⟩) := rfl
    have hat : D'.atKey (kF tx) (ftD Ch.Ft.zero) = ftD ⟨(F tx).bg, (F tx).en, (Ch.backTo (Ch.lostOf F) st0 (recsB pre)).b tx⟩ := fm.at' tx
    have HBX := hid (HB2.out tx)
    have IS := fun W hW => set_any p ky hd ol (Ch.backTo (Ch.lostOf F) st0 (recsB pre)).s W hW hky
    have HFM := hid (fun G f hG1 hG2 => fm.put (t := tx) own.isMap htx (f := f) (G := G) hG1 hG2)
    simp only at HSL HSS
    generalize hfb : (F tx).bg = fb at *
    generalize hfe : (F tx).en = fe at *
    generalize hfn : (Ch.backTo (Ch.lostOf F) st0 (recsB pre)).b tx = fn at *
    have hfn0 : 0 ≤ fn ∧ fn ≤ 800 := HBX.out
    have hkey := kF_key htx
    have hN2 : N' < maxLen := by unfold maxLen; omega
    have IL := fun W => lost_any fb fe fn W
    have own1 := own.alloc (.cells #[.bool fb, .bool fe, .int .i64 fn] 84)
    have gA := World.grownBy_alloc W (.cells #[.bool fb, .bool fe, .int .i64 fn] 84) none
    have bA : Below W.heap.size W (W.alloc (.cells #[.bool fb, .bool fe, .int .i64 fn] 84)) := (Below.refl _ _).alloc (Nat.le_refl _) _
    have lw : w.heap.size < W.heap.size := by omega
    have lw1 : w.heap.size + 1 < W.heap.size := by omega
    have hsW : p < W.heap.size := sl.lt
    have hmW : mb ≠ W.heap.size := by omega
    have ne1 : ¬ Bx = W.heap.size := by omega
    have ne2 : ¬ W.heap.size = Bx := by omega
    have ne3 : ¬ w.heap.size + 1 = W.heap.size := by omega
    have ne4 : ¬ W.heap.size = w.heap.size + 1 := by omega
    clear HBX HB2 fm
    cases hk2 : (kd != 2)
    rotate_left
    · have HZ := hid (HSK.out (by simp [hk2]))
      clear HSK HSL HSS IS IL HFM
      gi_wp2_with (gi_at_lookup; go_must (refine wpListIn_lookF _ _ mb N' D' tx fb fe fn rfl rfl rfl rfl own htx hat ?_))
      refine ⟨trivial, ?_⟩
      gi_wp2
      exact ⟨KeepsFrom.of_grownBy gA (by simp), KpC.gr gA (by simp) (by simp), HZ.out.far gA hmb hpl (fun r e => by cases e)⟩
    · generalize hlb : Ch.Ft.lost ⟨fb, fe, fn⟩ = lb at *
      cases lb
      · have HZ := hid (HSK.out (by simp [hk2, HLO.out]))
        clear HSK HSL HSS IS HFM
        gi_wp2_with (first | (gi_at_lookup; go_must (refine wpListIn_lookF _ _ mb N' D' tx fb fe fn rfl rfl rfl rfl own htx hat ?_)) | (refine ⟨trivial, ?_⟩; gi_at_call 55; refine (CallsIn.inRound l (callsIn_wide.2 (IL _))).mono ?_; rintro e w4 ⟨rfl, b4⟩))
        have gB := gr_belowV b4 none
        exact ⟨(KeepsFrom.of_grownBy gA (by simp)).trans (KeepsFrom.of_grownBy gB (by simp)), (KpC.gr gA (by simp) (by simp)).t (KpC.gr gB (by simp) (by simp)), (HZ.out.far gA hmb hpl (fun r e => by cases e)).far gB hmb hpl (fun r e => by cases e)⟩
      · have hh : (kd != 2 || !Ch.lostOf F tx) = false := by rw [hk2, HLO.out]; rfl
        have hIA := hid (fun w4 (gB : (W.alloc (.cells #[.bool fb, .bool fe, .int .i64 fn] 84)).grownBy w4 none) => (hI'.out.far gA hmb hpl (fun r e => by cases e)).far gB hmb hpl (fun r e => by cases e))
        by_cases h0 : 0 < fn
        · have HST := hid (HSL.out hh h0)
          have HFP := hid (HFM.out (Ch.fOf F ⟨(Ch.backTo (Ch.lostOf F) st0 (recsB pre)).s, fun t => if t = tx then (Ch.backTo (Ch.lostOf F) st0 (recsB pre)).b t - 1 else (Ch.backTo (Ch.lostOf F) st0 (recsB pre)).b t⟩) ⟨fb, fe, fn - 1⟩ (by simp only [Ch.fOf, hfb, hfe, hfn, if_true]) (fun q hq => by simp only [Ch.fOf]; rw [if_neg hq]))
          clear HSK HSL HSS IS HFM hh hI' HLO
          gi_wp2_with (first | (gi_at_lookup; go_must (refine wpListIn_lookF _ _ mb N' D' tx fb fe fn rfl rfl rfl rfl own htx hat ?_)) | (refine ⟨trivial, ?_⟩; gi_at_call 55; refine (CallsIn.inRound l (callsIn_wide.2 (IL _))).mono ?_; rintro e w4 ⟨rfl, b4⟩; have d4 := keep_cell b4 (keep_cell bA c4); have t4 := keep_cell b4 (keep_cell bA y1); have own4 := own1.kept (gr_belowV b4 none) (by simp); have own5 := own4.setCell (a := ⟨W.heap.size, 2, none⟩) hmW (.int .i64 (fn - 1)); obtain ⟨z0, z1, z2, zf⟩ := fate_cells (block_belowV b4 (heap_alloc_new W (.cells #[.bool fb, .bool fe, .int .i64 fn] 84))); have l4 := lt_of_cell d4; have l5 := lt_of_cell t4; have l6 := lt_of_cell z0) | (gi_at_mapUpdate; go_must (refine wpListIn_mapUpdate_own _ rfl _ _ _ 62 rfl 2 84 Tryz.keyedF Tryz.underlying62 ftElem mb N' D' rfl own5 hN2 _ _ _ rfl rfl hkey _ [] (ftElem_mk fb fe (fn - 1)) ?_; intro w6 own6 gr6)))
          have gB := gr_belowV b4 none
          have gC := gr_setW (w := w4) (s := W.heap.size) (o := 2) (v := .int .i64 (fn - 1))
          refine ⟨(((KeepsFrom.of_grownBy gA (by simp)).trans (KeepsFrom.of_grownBy gB (by simp))).trans ((KeepsOthers.setCell _ _ _).from _)).trans (KeepsFrom.of_grownBy gr6 (fun j e => by cases e; omega)), (((KpC.gr gA (by simp) (by simp)).t (KpC.gr gB (by simp) (by simp))).t (KpC.gr gC (by simp; omega) (fun h0 b off ha => by have := HA h0 b off ha; simp; omega))).t (KpC.gr gr6 (by simp; omega) (fun h0 b off ha => by have := (HN.out h0 b off ha).2; simp; omega)), ?_⟩
          exact ((hIA.out w4 gB).far gC hmb hpl (fun r e => by cases e; exact hz)).map ⟨(xi, ⟨kd, tx, ky, hd, ol, hs, nw⟩), fit⟩ gr6 hmb hpm HST.out rfl (by omega) own6 HFP.out
        · have HST := hid (HSS.out hh h0)
          clear HSK HSL HSS HFM hh hI' HLO
          have h0' : ¬ fn > 0 := h0
          have f0 : decide (0 < fn) = false := by simpa using h0
          gi_wp2_with (first | (gi_at_lookup; go_must (refine wpListIn_lookF _ _ mb N' D' tx fb fe fn rfl rfl rfl rfl own htx hat ?_)) | (refine ⟨trivial, ?_⟩; gi_at_call 55; refine (CallsIn.inRound l (callsIn_wide.2 (IL _))).mono ?_; rintro e w4 ⟨rfl, b4⟩; have d3 := keep_cell b4 (keep_cell bA c3); have t2 := keep_cell b4 (keep_cell bA y2); have t3 := keep_cell b4 (keep_cell bA y3); have t4 := keep_cell b4 (keep_cell bA y4); have sl4 := (sl.below bA).below b4; obtain ⟨z0, z1, z2, zf⟩ := fate_cells (block_belowV b4 (heap_alloc_new W (.cells #[.bool fb, .bool fe, .int .i64 fn] 84))); have l4 := lt_of_cell d3; have l5 := lt_of_cell t4; have l6 := lt_of_cell z0) | (refine ⟨trivial, ?_⟩; gi_at_call 52; refine (CallsIn.inRound l (callsIn_wide.2 (IS _ sl4))).mono ?_; rintro e w6 ⟨rfl, sl6, gr6⟩))
          have gB := gr_belowV b4 none
          refine ⟨((KeepsFrom.of_grownBy gA (by simp)).trans (KeepsFrom.of_grownBy gB (by simp))).trans (KeepsFrom.of_grownBy gr6 (fun j e => by cases e; omega)), ((KpC.gr gA (by simp) (by simp)).t (KpC.gr gB (by simp) (by simp))).t (KpC.gr gr6 (by simp; omega) (fun h0 b off ha => by have := (HN.out h0 b off ha).1; simp; omega)), ?_⟩
          exact (hIA.out w4 gB).slot ⟨(xi, ⟨kd, tx, ky, hd, ol, hs, nw⟩), fit⟩ gr6 hpl hpm HST.out rfl sl6
  case done =>
    rintro D2 ys W hD hys hI hK
    have hJ := hI.far (grownBy_putObj' W D2 (.deferred none)) hmb hpl (fun r e => by cases e; omega)
    obtain ⟨N', D', h1, h2, h3⟩ := hJ.mp
    have h4 := hJ.sl
    have h5 := hJ.two
    rw [hys, ← hst0] at h3 h4
    have hyl : ys.length = rs.length := by rw [← recsB_len, hys, List.length_reverse]
    refine ⟨by simp, .inl ⟨_, _, rfl, run_takeDeferred hK, ?_⟩⟩
    exact ⟨_, results_none rfl _ _ _, rfl, h4, ⟨N', D', by omega, h2, h3⟩, h5⟩
  case stop =>
    rintro D c pre W _ _ h _
    exact h.elim
end Go.Proofs.YtoijjjckdggglaaGreat


/- RedoRows of the program. -/
namespace Go.Proofs.YtoijjjckdggglaaGreat
open Go.RowKit Go.Maps

theorem row3V {W : World} {g : Nat} {t : TypeId} {u0 u1 u2 : Value} (h : W.heap[g]? = some (.cells #[u0, u1, u2] t (0, 0))) :
    W.cell? ⟨g, 0, none⟩ = some u0 ∧ W.cell? ⟨g, 1, none⟩ = some u1 ∧ W.cell? ⟨g, 2, none⟩ = some u2 ∧ W.frozen? ⟨g, 0, none⟩ = false ∧ W.frozen? ⟨g, 1, none⟩ = false ∧ W.frozen? ⟨g, 2, none⟩ = false :=
  ⟨cell_of_row _ _ _ _ _ _ h, cell_of_row _ _ _ _ _ _ h, cell_of_row _ _ _ _ _ _ h, by simp [World.frozen?, h], by simp [World.frozen?, h], by simp [World.frozen?, h]⟩

/-- What RedoRows hands back, in memory. -/
structure RedoAt (w w' : World) (e : Ending) (R : Int × List Int × List Ch.Row) (a1 : Option Addr) (m1 c1 : Nat) (a2 : Option Addr) (m2 c2 : Nat) : Prop where
  ret : e = .returned (.agg #[.int .i64 R.1, .slice a1 m1 c1, .slice a2 m2 c2])
  b1 : m1 ≤ 1048576
  b2 : m2 ≤ 1048576
  o1 : w'.ownsRow w.heap.size 2 1 (.slice a1 m1 c1) m1 (icells R.2.1)
  o2 : w'.ownsRow w.heap.size 44 3 (.slice a2 m2 c2) m2 (rcells R.2.2)
  ap : ∀ g, (Value.slice a1 m1 c1).ownBlock = some g → (Value.slice a2 m2 c2).ownBlock ≠ some g
  bl : Below w.heap.size w w'

theorem redo_code {w W : World} {c : Int} (hb : Below w.heap.size w W) : RedoAt w (((W.setCell ⟨w.heap.size, 0, none⟩ (.int .i64 c)).setCell ⟨w.heap.size, 1, none⟩ (.slice none 0 0)).setCell ⟨w.heap.size, 2, none⟩ (.slice none 0 0)) (.returned (.agg #[.int .i64 c, .slice none 0 0, .slice none 0 0])) (c, [], []) none 0 0 none 0 0 :=
  ⟨rfl, by omega, by omega, World.ownsRow_nil _ _ _ _, World.ownsRow_nil _ _ _ _, fun g hg => by simp [Value.ownBlock] at hg, ((hb.setCell (p := ⟨w.heap.size, 0, none⟩) (Nat.le_refl _) _).setCell (p := ⟨w.heap.size, 1, none⟩) (Nat.le_refl _) _).setCell (p := ⟨w.heap.size, 2, none⟩) (Nat.le_refl _) _⟩

theorem lt_of_cells7 {w : World} {a : Option Addr} {n : Nat} {rs : List Ch.Rec} (h : CellsAt w a (n * 7) (rc7 rs)) : 0 < n → ∀ b off, a = some ⟨b, off, none⟩ → b < w.heap.size := fun h0 b off ha => by
  obtain ⟨b1, o1, e1, q1, _⟩ := h.rec h0
  rw [ha] at e1
  simp only [Option.some.injEq, Addr.mk.injEq, and_true] at e1
  obtain ⟨rfl, rfl⟩ := e1
  exact lt_of_cell q1

set_option linter.unusedSimpArgs false in
set_option maxRecDepth 20000 in
set_option maxHeartbeats 4000000 in
theorem implRedo_any (a1 : Option Addr) (n1 c1 : Nat) (base : List Ch.Row) (a2 : Option Addr) (n2 c2 : Nat) (rs : List Ch.Rec) (w : World) (h1 : CellsAt w a1 (n1 * 3) (rcells base)) (h2 : CellsAt w a2 (n2 * 7) (rc7 rs)) (hn1 : n1 ≤ 1048576) (hn2 : n2 ≤ 1048576) :
    Calls Tryz.prog 20 #[.slice a1 n1 c1, .slice a2 n2 c2] w fun e w' => ∃ a3 m3 c3 a4 m4 c4, RedoAt w w' e (Ch.redoR base rs) a3 m3 c3 a4 m4 c4 := by
  have IA := fun W hW => implRecs_any a2 n2 c2 rs W hW hn2
  have IB := fun W hW => implBase_any a1 n1 c1 base W hW hn1
  have kA : ∀ o, Below w.heap.size w (w.alloc o) := fun o => (Below.refl _ _).alloc (Nat.le_refl _) o
  obtain ⟨c, HC⟩ : ∃ c, Hid (Ch.recsF rs = c) := ⟨_, rfl⟩
  rw [HC.out] at IA
  by_cases h0 : c = 0
  rotate_left
  · have hc : (c != 0) = true := by simpa using h0
    rw [Ch.redoR_bad HC.out hc]
    clear HC h0 IB
    go_enter Tryz.func20, Tryz.ntmps20
    go_wp2_with fail
    refine (IA _ (h2.below (kA _))).mono ?_
    rintro e w1 ⟨rfl, b1⟩
    have hR := block_belowV b1 (heap_alloc_new w _)
    have b1 := below_box b1
    have lz := (Array.getElem?_eq_some_iff.1 hR).1
    obtain ⟨x0, x1, x2, f0, f1, f2⟩ := row3V hR
    go_wp2
    exact bodyPost_ret (v := .agg #[.int .i64 c, .slice none 0 0, .slice none 0 0]) (by simp [results, Tryz.results20, go_sem, x0, x1, x2]) rfl ⟨none, 0, 0, none, 0, 0, redo_code b1⟩
  subst h0
  obtain ⟨d, HD⟩ : ∃ d, Hid (Ch.baseF base = d) := ⟨_, rfl⟩
  rw [HD.out] at IB
  by_cases h0 : d = 0
  rotate_left
  · have hc : (d != 0) = true := by simpa using h0
    rw [Ch.redoR_base HC.out HD.out hc]
    clear HC HD h0
    go_enter Tryz.func20, Tryz.ntmps20
    go_wp2_with fail
    refine (IA _ (h2.below (kA _))).mono ?_
    rintro e w1 ⟨rfl, b1⟩
    have hR := block_belowV b1 (heap_alloc_new w _)
    have b1 := below_box b1
    clear IA
    go_wp2_with fail
    refine (IB _ (h1.below b1)).mono ?_
    rintro e w2 ⟨rfl, b2⟩
    have hR := block_belowV b2 hR
    have b2' := b1.trans (b2.mono b1.size)
    have lz := (Array.getElem?_eq_some_iff.1 hR).1
    obtain ⟨x0, x1, x2, f0, f1, f2⟩ := row3V hR
    go_wp2
    exact bodyPost_ret (v := .agg #[.int .i64 d, .slice none 0 0, .slice none 0 0]) (by simp [results, Tryz.results20, go_sem, x0, x1, x2]) rfl ⟨none, 0, 0, none, 0, 0, redo_code b2'⟩
  subst h0
  rw [Ch.redoR_ok HC.out HD.out]
  have HEN : Hid (Ch.endS base rs = Ch.backTo (fun t => (Ch.fate rs t).lost) ⟨Ch.redoTo (Ch.baseTo base base.length) rs rs.length, fun t => (Ch.fate rs t).bk⟩ rs.reverse) := rfl
  rw [HEN.out]
  clear HEN
  generalize hS0 : Ch.baseTo base base.length = S0
  generalize hS1 : Ch.redoTo S0 rs rs.length = S1
  have HZ := hid (Ch.recsF_zero HC.out)
  have HY := hid (Ch.base_zero HD.out)
  have HL := h2.len7
  have HL1 := h1.rlen
  have hn8 : n2 ≤ 800 := by have h1 := HZ.out.1; have h2 := HL.out; omega
  have hn24 : n1 ≤ 240 := by have h1 := HY.out.2.1; have h2 := HL1.out; omega
  have HM := hid (fun t => Ch.losL_mem rs t)
  have HS := hid (Ch.losL_sorted rs)
  have HBK := hid (fun t => Ch.fate_bk rs t)
  have HLT := hid (lt_of_cells7 h2)
  clear HC HD
  go_enter Tryz.func20, Tryz.ntmps20
  go_wp2_with fail
  refine (IA _ (h2.below (kA _))).mono ?_
  rintro e w1 ⟨rfl, b1⟩
  have hR := block_belowV b1 (heap_alloc_new w _)
  have lz0 := (Array.getElem?_eq_some_iff.1 hR).1
  have b1 := below_box b1
  clear IA
  go_wp2_with fail
  refine (IB _ (h1.below b1)).mono ?_
  rintro e w2 ⟨rfl, b2⟩
  have hR := block_belowV b2 hR
  have b2' := b1.trans (b2.mono b1.size)
  clear IB
  go_wp2_with fail
  refine (fates_any a2 n2 c2 rs _ (h2.below b2') hn8 HZ.out.2).mono ?_
  rintro e w3 ⟨N, D, rfl, hN, om, fm, b3⟩
  have hR := block_belowV b3 hR
  have b3' := b2'.trans (b3.mono b2'.size)
  go_wp2_with fail
  refine (slots_any a1 n1 c1 base _ (h1.below b3') hn24 HY.out.2.2).mono ?_
  rintro e w4 ⟨rfl, sl, b4⟩
  have hR := block_belowV b4 hR
  have b4' := b3'.trans (b4.mono b3'.size)
  have OM := om.lt
  have om := om.kept (gr_belowV b4 none) (by simp)
  have z1 := b1.size
  have z2 := b2.size
  have z3 := b3.size
  have z4 := b4.size
  have hm3 : w2.heap.size < w3.heap.size := OM
  rw [hS0] at sl
  go_wp2_with fail
  refine (redo_any w3.heap.size a2 n2 c2 rs S0 _ (h2.below b4') hn8 HZ.out.2 sl (fun h0 b off ha => by have := HLT.out h0 b off ha; omega)).mono ?_
  rintro e w5 ⟨rfl, sl5, g5⟩
  have hR := block_grownV g5 hR (by simp; omega)
  have b5' := b4'.grown g5 b4'.size (fun j hj => by cases hj; omega)
  have om := om.kept g5 (by simp; omega)
  have z5 := g5.size
  clear sl
  rw [hS1] at sl5
  clear hS0 hS1
  have hcT := takeBack_any w3.heap.size w2.heap.size N a2 n2 c2 rs S1 (Ch.fate rs) D w5 (h2.below b5') hn8 hN HZ.out.2 sl5 om fm (fun t => by have h1 := HBK.out t; have h2 := HZ.out.1; omega) (fun h0 b off ha => by have := HLT.out h0 b off ha; omega)
  go_wp2_with fail
  refine hcT.mono ?_
  rintro e w6 ⟨rfl, sl6, ⟨N6, D6, hN6, om6, fm6⟩, tw⟩
  clear hcT
  have lz5 : w.heap.size < w5.heap.size := by omega
  have hR := (tw.block w.heap.size lz5 (by omega) (by omega)).trans hR
  have b6' := tw.below b5' (by omega) (by omega) (by omega)
  have z6 := tw.size
  have hml : ∀ t, t ∈ Ch.losL rs ↔ (Ch.fOf (Ch.fate rs) (Ch.backTo (Ch.lostOf (Ch.fate rs)) ⟨S1, fun t => (Ch.fate rs t).bk⟩ rs.reverse) t).lost = true := fun t => by
    rw [HM.out t]
    constructor
    · exact fun h => h.2.2
    · intro hl
      have hh : Maps.has D (kF t) = true := by
        cases hb : Maps.has D (kF t)
        · have e1 := fm.none hb
          simp [Ch.Ft.lost, Ch.fOf, e1, Ch.Ft.zero] at hl
        · rfl
      exact ⟨(fm.has t hh).1, (fm.has t hh).2, hl⟩
  have hcL := losers_any w2.heap.size N6 D6 _ (Ch.losL rs) w6 om6 fm6 (by omega) HS.out hml
  clear HM HS hml fm fm6 om om6 HBK tw sl5 g5
  go_wp2_with fail
  refine hcL.mono ?_
  rintro e w7 ⟨a3, m3, c3, rfl, hm3', o3, b7⟩
  clear hcL
  have hR := block_belowV b7 hR
  have b7' := b6'.trans (b7.mono b6'.size)
  have sl7 := sl6.below b7
  have z7 := b7.size
  have L3 := owns_lt o3
  have hcR := rows_any w3.heap.size _ w7 sl7
  clear sl6 sl7
  have HE : Hid (Ch.backTo (Ch.lostOf (Ch.fate rs)) ⟨S1, fun t => (Ch.fate rs t).bk⟩ rs.reverse = Ch.backTo (fun t => (Ch.fate rs t).lost) ⟨S1, fun t => (Ch.fate rs t).bk⟩ rs.reverse) := rfl
  rw [HE.out] at hcR
  clear HE
  go_wp2_with fail
  refine hcR.mono ?_
  rintro e w8 ⟨a4, m4, c4, rfl, hm4, o4, b8⟩
  clear hcR
  have hR := block_belowV b8 hR
  have b8' := b7'.trans (b8.mono b7'.size)
  have o3 := owns_below o3 b8
  have L4 := owns_lt o4
  have z8 := b8.size
  have lz := (Array.getElem?_eq_some_iff.1 hR).1
  obtain ⟨x0, x1, x2, f0, f1, f2⟩ := row3V hR
  go_wp2
  refine bodyPost_ret (v := .agg #[.int .i64 0, .slice a3 m3 c3, .slice a4 m4 c4]) (by simp [results, Tryz.results20, go_sem, x0, x1, x2]) rfl ⟨a3, m3, c3, a4, m4, c4, rfl, hm3', by omega, ?_, ?_, ?_, ?_⟩
  · refine owns_base (base := w6.heap.size) (ownsRow_setCell_below (ownsRow_setCell_below (ownsRow_setCell_below o3 ?_ _) ?_ _) ?_ _) (by omega)
    all_goals (show w.heap.size < w6.heap.size; omega)
  · refine owns_base (base := w7.heap.size) (ownsRow_setCell_below (ownsRow_setCell_below (ownsRow_setCell_below o4 ?_ _) ?_ _) ?_ _) (by omega)
    all_goals (show w.heap.size < w7.heap.size; omega)
  · intro g hg hg'
    have := (L3 g hg).2
    have := (L4 g hg').1
    omega
  · exact ((b8'.setCell (p := ⟨w.heap.size, 0, none⟩) (Nat.le_refl _) _).setCell (p := ⟨w.heap.size, 1, none⟩) (Nat.le_refl _) _).setCell (p := ⟨w.heap.size, 2, none⟩) (Nat.le_refl _) _
end Go.Proofs.YtoijjjckdggglaaGreat

