/- Several texts in one: LosS, LosB, RdF, RdG. -/
import Derived.Test.YtlpncikiaojmiaaProg
import Derived.Shelf.SortM.Plain
import Derived.Shelf.SortM.SortNone
import Derived.Shelf.SlGeneric
import Derived.Ground.SlgmProg
import Derived.Sort.OwnSortedInts
import Derived.Test.YtlpncikiaojmiaaLosA
import Derived.Test.YtlpncikiaojmiaaMz0
import Derived.Test.YtlpncikiaojmiaaRdE
import Derived.Maps.OwnIn


/- slices.Sort of numbers: the shelf's contract, laid. -/
namespace Go.Proofs
open Go.Shelf Go.Sort Go.RowKit
namespace Ytlpncikiaojmiaa
shelf_lay_g SlLaysM.n5 Slgm 5 at Try 62 as Try.sortInts

end Ytlpncikiaojmiaa
end Go.Proofs


/- losersIn of the program: a range over the map, then a sort. -/
namespace Go.Proofs.Ytlpncikiaojmiaa
open Go.RowKit Go.Maps Go.Sort

theorem gr_belowV {w w' : World} (h : Below w.heap.size w w') (row : Option Nat) : w.grownBy w' row := ⟨h.os, h.tape, h.output, h.size, fun k hk _ => h.block k hk⟩

theorem sortI_any (base g n cap : Nat) (zs : List Int) (w : World) (hrow : w.ownsRow base 2 1 (.slice (some ⟨g, 0, none⟩) n cap) n (icells zs)) (hn : n ≤ 1048576) :
    Calls Try.prog 62 #[.slice (some ⟨g, 0, none⟩) n cap] w fun e w' => e = .returned (.tuple #[]) ∧ w'.ownsRow base 2 1 (.slice (some ⟨g, 0, none⟩) n cap) n (icells (zs.mergeSort fun x y => decide (x ≤ y))) ∧ w.grownBy w' (some g) := by
  have hl : n = zs.length := by have := hrow.1; rw [icells_len] at this; omega
  subst hl
  rcases hrow.2 with ⟨hnil, _⟩ | ⟨g', cap', cur, hv, hbase, hb, h1, h2, h3, h4⟩
  · cases hnil
  cases hv
  have hH : Holds (Value.int .i64) w g 0 zs.toArray := holds_of_blockI hb (by rw [Nat.mul_one] at h4; exact h4)
  have hg : g < w.heap.size := (Array.getElem?_eq_some_iff.1 hb).1
  have hcon := AnyM.slices_Sort_int Try.sortInts g 0 cap zs w hH hg (by omega)
  change Calls Try.prog 62 _ _ _ at hcon
  refine hcon.mono ?_
  rintro e w' ⟨rfl, nn, os, rfl⟩
  exact ⟨rfl, ownsRow_sortedI (by simp) hbase hb h1 h2 h3, grownBy_sortedI _⟩

theorem sortN_any (p : Option Addr) (cap : Nat) (w : World) :
    Calls Try.prog 62 #[.slice p 0 cap] w fun e w' => e = .returned (.tuple #[]) ∧ w' = w := by
  have hcon := AnyM.slices_Sort_int_none Try.sortInts p cap w
  change Calls Try.prog 62 _ _ _ at hcon
  exact hcon

/-- What has come of the map so far. -/
structure CollF (F : Int → Ch.Ft) (left : Lit → Bool) (zs : List Int) : Prop where
  nd : zs.Nodup
  mem : ∀ t, t ∈ zs ↔ (F t).lost = true ∧ left (kF t) = false
theorem CollF.start {F : Int → Ch.Ft} {D : DataW Unit} (h : Fm F D) : CollF F (Maps.has D) [] := by
  refine ⟨List.nodup_nil, fun t => ?_⟩
  constructor
  · intro h; simp at h
  · rintro ⟨h1, h2⟩
    rw [h.none h2] at h1
    simp [Ch.Ft.lost, Ch.Ft.zero] at h1
theorem CollF.yes {F : Int → Ch.Ft} {left : Lit → Bool} {zs : List Int} (h : CollF F left zs) {t : Int} (hl : left (kF t) = true) (hF : (F t).lost = true) : CollF F (fun z => left z && !z.sameKey (kF t)) (zs ++ [t]) := by
  have hnew : t ∉ zs := fun hx => by have := ((h.mem t).1 hx).2; rw [hl] at this; cases this
  refine ⟨List.nodup_append.2 ⟨h.nd, by simp, fun a ha b hb => by simp at hb; subst hb; exact fun e1 => hnew (e1 ▸ ha)⟩, fun s => ?_⟩
  by_cases e : s = t
  · subst e
    rw [WideAt.sameKey_self (kF_isKey _)]
    simp [hF]
  · have hne : kF s ≠ kF t := kF_ne e
    rw [sameKey_ne hne]
    simp [h.mem s, e]
theorem CollF.no {F : Int → Ch.Ft} {left : Lit → Bool} {zs : List Int} (h : CollF F left zs) {t : Int} (hF : (F t).lost = false) : CollF F (fun z => left z && !z.sameKey (kF t)) zs := by
  refine ⟨h.nd, fun s => ?_⟩
  by_cases e : s = t
  · subst e
    rw [h.mem s, hF]
    simp
  · have hne : kF s ≠ kF t := kF_ne e
    rw [sameKey_ne hne]
    simp [h.mem s]
theorem CollF.done {F : Int → Ch.Ft} {left : Lit → Bool} {zs L : List Int} (h : CollF F left zs) (hl : ∀ kl, left kl = false) (hL : L.Pairwise (· < ·)) (hm : ∀ t, t ∈ L ↔ (F t).lost = true) : (zs.mergeSort fun x y => decide (x ≤ y)) = L :=
  Ch.sort_is h.nd hL (fun t => by rw [h.mem t, hm t]; simp [hl])

end Go.Proofs.Ytlpncikiaojmiaa


/- takeBack of the program. -/
namespace Go.Proofs.Ytlpncikiaojmiaa
open Go.RowKit Go.Shelf Go.Maps

attribute [local go_sem] Oper.semAt_some

/-- Nothing that lay has turned but two blocks. -/
structure Two (w w' : World) (p q : Nat) : Prop where
  os : w'.os = w.os
  tape : w'.tape = w.tape
  output : w'.output = w.output
  size : w.heap.size ≤ w'.heap.size
  block : ∀ k, k < w.heap.size → k ≠ p → k ≠ q → w'.heap[k]? = w.heap[k]?
theorem Two.refl (w : World) (p q : Nat) : Two w w p q := ⟨rfl, rfl, rfl, Nat.le_refl _, fun _ _ _ _ => rfl⟩
theorem Two.gr {w W W' : World} {p q : Nat} (h : Two w W p q) {row : Option Nat} (hg : W.grownBy W' row) (hr : ∀ r, row = some r → r = p ∨ r = q ∨ w.heap.size ≤ r) : Two w W' p q :=
  ⟨hg.os.trans h.os, hg.tape.trans h.tape, hg.output.trans h.output, Nat.le_trans h.size hg.size, fun k hk h1 h2 => (hg.block k (Nat.lt_of_lt_of_le hk h.size) (fun e => by rcases hr k e.symm with e1 | e1 | e1 <;> omega)).trans (h.block k hk h1 h2)⟩
theorem Two.below {w W : World} {p q : Nat} (h : Two w W p q) {B : Nat} {u : World} (hB : Below B u w) (hp : B ≤ p) (hq : B ≤ q) (hs : B ≤ w.heap.size) : Below B u W :=
  hB.trans ⟨h.os, h.tape, h.output, h.size, fun k hk => h.block k (by omega) (by omega) (by omega)⟩
theorem cellsN {W W' : World} {a : Option Addr} {m : Nat} {xs : List Value} (h : CellsAt W a m xs) {row : Option Nat} (hg : W.grownBy W' row) (hr : 0 < m → ∀ b off, a = some ⟨b, off, none⟩ → row ≠ some b) : CellsAt W' a m xs := by
  refine ⟨h.1, fun hp => ?_⟩
  obtain ⟨b, off, ha, hc⟩ := h.2 hp
  refine ⟨b, off, ha, fun i hi => ?_⟩
  have := hc i hi
  have hl : i < xs.length := by rw [h.1]; exact hi
  rw [List.getElem?_eq_getElem hl] at this ⊢
  exact grown_cell hg this (hr hp b off ha)
theorem KpC.gr {a : Option Addr} {n : Nat} {rs : List Ch.Rec} {Bn : Nat} {W W' : World} {row : Option Nat} (hg : W.grownBy W' row) (h1 : row ≠ some Bn) (h2 : 0 < n → ∀ b off, a = some ⟨b, off, none⟩ → row ≠ some b) : KpC a n rs Bn W W' :=
  ⟨fun h => cellsN h hg (fun h0 => h2 (by omega)), fun _ hv => grown_cell hg hv h1⟩

def Ch.fOf (F : Int → Ch.Ft) (st : Ch.Bs) (t : Int) : Ch.Ft := ⟨(F t).bg, (F t).en, st.b t⟩
def Ch.lostOf (F : Int → Ch.Ft) (t : Int) : Bool := (F t).lost

/-- What a round of takeBack finds. -/
structure TbI (w : World) (p mb N : Nat) (F : Int → Ch.Ft) (st0 : Ch.Bs) (pre : List FRec) (W : World) : Prop where
  sl : Slt W p (Ch.backTo (Ch.lostOf F) st0 (recsB pre)).s
  mp : ∃ N' D', N' ≤ N + pre.length ∧ W.ownsMap Try.prog 2 ftElem mb N' D' ∧ Fm (Ch.fOf F (Ch.backTo (Ch.lostOf F) st0 (recsB pre))) D'
  c3 : W.cell? ⟨w.heap.size, 0, none⟩ = some (.pointer (some ⟨p, 0, none⟩))
  c4 : W.cell? ⟨w.heap.size + 1, 0, none⟩ = some (.map (some mb))
  two : Two w W p mb
  sz : w.heap.size + 3 ≤ W.heap.size
theorem TbI.far {w : World} {p mb N : Nat} {F : Int → Ch.Ft} {st0 : Ch.Bs} {pre : List FRec} {A B : World} {row : Option Nat} (h : TbI w p mb N F st0 pre A) (hg : A.grownBy B row) (hmb : mb < w.heap.size) (hp : p < w.heap.size) (hr : ∀ r, row = some r → w.heap.size + 3 ≤ r) : TbI w p mb N F st0 pre B := by
  obtain ⟨N', D', h1, h2, h3⟩ := h.mp
  exact ⟨h.sl.keep hg (fun e => by have := hr p e; omega), ⟨N', D', h1, h2.kept hg (fun e => by have := hr mb e.symm; omega), h3⟩, grown_cell hg h.c3 (fun e => by have := hr _ e; omega), grown_cell hg h.c4 (fun e => by have := hr _ e; omega), h.two.gr hg (fun r e => .inr (.inr (by have := hr r e; omega))), Nat.le_trans h.sz hg.size⟩

theorem TbI.same {w : World} {p mb N : Nat} {F : Int → Ch.Ft} {st0 : Ch.Bs} {pre : List FRec} {W : World} (h : TbI w p mb N F st0 pre W) (x : FRec) (hst : Ch.back1 (Ch.lostOf F) (Ch.backTo (Ch.lostOf F) st0 (recsB pre)) x.1.2 = Ch.backTo (Ch.lostOf F) st0 (recsB pre)) : TbI w p mb N F st0 (pre ++ [x]) W := by
  have e : Ch.backTo (Ch.lostOf F) st0 (recsB (pre ++ [x])) = Ch.backTo (Ch.lostOf F) st0 (recsB pre) := by rw [recsB_snoc, Ch.backTo_snoc, hst]
  obtain ⟨N', D', h1, h2, h3⟩ := h.mp
  exact ⟨by rw [e]; exact h.sl, ⟨N', D', by simp; omega, h2, by rw [e]; exact h3⟩, h.c3, h.c4, h.two, h.sz⟩
theorem TbI.map {w : World} {p mb N : Nat} {F : Int → Ch.Ft} {st0 : Ch.Bs} {pre : List FRec} {W W' : World} (h : TbI w p mb N F st0 pre W) (x : FRec) (hg : W.grownBy W' (some mb)) (hmb : mb < w.heap.size) (hpm : p ≠ mb) {st : Ch.Bs} (hst : Ch.back1 (Ch.lostOf F) (Ch.backTo (Ch.lostOf F) st0 (recsB pre)) x.1.2 = st) (hs : st.s = (Ch.backTo (Ch.lostOf F) st0 (recsB pre)).s)
    {N2 : Nat} {D2 : DataW Unit} (h1 : N2 ≤ N + pre.length + 1) (h2 : W'.ownsMap Try.prog 2 ftElem mb N2 D2) (h3 : Fm (Ch.fOf F st) D2) : TbI w p mb N F st0 (pre ++ [x]) W' := by
  have e : Ch.backTo (Ch.lostOf F) st0 (recsB (pre ++ [x])) = st := by rw [recsB_snoc, Ch.backTo_snoc, hst]
  refine ⟨by rw [e, hs]; exact h.sl.keep hg (by simpa using fun e => hpm e.symm), ⟨N2, D2, by simp; omega, h2, by rw [e]; exact h3⟩, grown_cell hg h.c3 (by simp; omega), grown_cell hg h.c4 (by simp; omega), h.two.gr hg (fun r e => by cases e; exact .inr (.inl rfl)), Nat.le_trans h.sz hg.size⟩
theorem TbI.slot {w : World} {p mb N : Nat} {F : Int → Ch.Ft} {st0 : Ch.Bs} {pre : List FRec} {W W' : World} (h : TbI w p mb N F st0 pre W) (x : FRec) (hg : W.grownBy W' (some p)) (hp : p < w.heap.size) (hpm : p ≠ mb) {st : Ch.Bs} (hst : Ch.back1 (Ch.lostOf F) (Ch.backTo (Ch.lostOf F) st0 (recsB pre)) x.1.2 = st) (hs : st.b = (Ch.backTo (Ch.lostOf F) st0 (recsB pre)).b)
    (hS : Slt W' p st.s) : TbI w p mb N F st0 (pre ++ [x]) W' := by
  have e : Ch.backTo (Ch.lostOf F) st0 (recsB (pre ++ [x])) = st := by rw [recsB_snoc, Ch.backTo_snoc, hst]
  obtain ⟨N', D', h1, h2, h3⟩ := h.mp
  refine ⟨by rw [e]; exact hS, ⟨N', D', by simp; omega, h2.kept hg (by simpa using fun e => hpm e.symm), ?_⟩, grown_cell hg h.c3 (by simp; omega), grown_cell hg h.c4 (by simp; omega), h.two.gr hg (fun r e => by cases e; exact .inl rfl), Nat.le_trans h.sz hg.size⟩
  rw [e]
  unfold Ch.fOf at h3 ⊢
  rw [hs]
  exact h3
theorem heap_alloc_at (w : World) {o : Obj} {g : Nat} (h : g = w.heap.size) : (w.alloc o).heap[g]? = some o := by subst h; exact heap_alloc_new w o
theorem Ch.back_skip {L : Int → Bool} {st : Ch.Bs} {r : Ch.Rec} (h : (r.kd != 2 || !L r.tx) = true) : Ch.back1 L st r = st := if_pos h
theorem Ch.back_less {L : Int → Bool} {st : Ch.Bs} {r : Ch.Rec} (h : (r.kd != 2 || !L r.tx) = false) (h0 : 0 < st.b r.tx) : Ch.back1 L st r = ⟨st.s, fun t => if t = r.tx then st.b t - 1 else st.b t⟩ := by
  unfold Ch.back1; rw [h, if_neg (by simp), if_pos h0]
theorem Ch.back_set {L : Int → Bool} {st : Ch.Bs} {r : Ch.Rec} (h : (r.kd != 2 || !L r.tx) = false) (h0 : ¬ 0 < st.b r.tx) : Ch.back1 L st r = ⟨st.s.set r.ky (Ch.optV r.hd r.ol), st.b⟩ := by
  unfold Ch.back1; rw [h, if_neg (by simp), if_neg h0]
theorem rec_cells {W : World} {g : Nat} {r : Ch.Rec} {t : TypeId} (h : W.heap[g]? = some (.cells (c7 r).toArray t (0, 0))) : At7 W g 0 r :=
  ⟨cell_of_row _ _ _ _ _ _ h, cell_of_row _ _ _ _ _ _ h, cell_of_row _ _ _ _ _ _ h, cell_of_row _ _ _ _ _ _ h, cell_of_row _ _ _ _ _ _ h, cell_of_row _ _ _ _ _ _ h, cell_of_row _ _ _ _ _ _ h⟩
theorem fate_cells {W : World} {g : Nat} {x y z : Value} {t : TypeId} (h : W.heap[g]? = some (.cells #[x, y, z] t (0, 0))) : W.cell? ⟨g, 0, none⟩ = some x ∧ W.cell? ⟨g, 1, none⟩ = some y ∧ W.cell? ⟨g, 2, none⟩ = some z ∧ W.frozen? ⟨g, 2, none⟩ = false :=
  ⟨cell_of_row _ _ _ _ _ _ h, cell_of_row _ _ _ _ _ _ h, cell_of_row _ _ _ _ _ _ h, by simp [World.frozen?, h]⟩
theorem block_keptV {W W' : World} {row : Option Nat} {g : Nat} {cs : Array Value} {t : TypeId} (h : W.heap[g]? = some (.cells cs t (0, 0))) (hg : W.grownBy W' row) (hr : ∀ r, row = some r → ∃ o : Obj, W.heap[r]? = some o ∧ o.isCells = false) : W'.heap[g]? = some (.cells cs t (0, 0)) := by
  have hlt : g < W.heap.size := (Array.getElem?_eq_some_iff.1 h).1
  rw [hg.block g hlt (fun e => ?_)]
  · exact h
  · obtain ⟨o, ho, hc⟩ := hr g e.symm
    rw [h] at ho
    cases ho
    cases hc

end Go.Proofs.Ytlpncikiaojmiaa


/- RedoRows of the program. -/
namespace Go.Proofs.Ytlpncikiaojmiaa
open Go.RowKit Go.Maps

theorem row3V {W : World} {g : Nat} {t : TypeId} {u0 u1 u2 : Value} (h : W.heap[g]? = some (.cells #[u0, u1, u2] t (0, 0))) :
    W.cell? ⟨g, 0, none⟩ = some u0 ∧ W.cell? ⟨g, 1, none⟩ = some u1 ∧ W.cell? ⟨g, 2, none⟩ = some u2 ∧ W.frozen? ⟨g, 0, none⟩ = false ∧ W.frozen? ⟨g, 1, none⟩ = false ∧ W.frozen? ⟨g, 2, none⟩ = false :=
  ⟨cell_of_row _ _ _ _ _ _ h, cell_of_row _ _ _ _ _ _ h, cell_of_row _ _ _ _ _ _ h, by simp [World.frozen?, h], by simp [World.frozen?, h], by simp [World.frozen?, h]⟩

/-- What RedoRows hands back, in memory. -/
structure RedoAt (w w' : World) (e : Ending) (R : Int × List Int × List Ch.Row) (a1 : Option Addr) (m1 c1 : Nat) (a2 : Option Addr) (m2 c2 : Nat) : Prop where
  ret : e = .returned (.agg #[.int .i64 R.1, .slice a1 m1 c1, .slice a2 m2 c2])
  b1 : m1 ≤ 1048576
  b2 : m2 ≤ 1048576
  o1 : w'.ownsRow w.heap.size 2 1 (.slice a1 m1 c1) m1 (icells R.2.1)
  o2 : w'.ownsRow w.heap.size 64 3 (.slice a2 m2 c2) m2 (rcells R.2.2)
  ap : ∀ g, (Value.slice a1 m1 c1).ownBlock = some g → (Value.slice a2 m2 c2).ownBlock ≠ some g
  bl : Below w.heap.size w w'

theorem redo_code {w W : World} {c : Int} (hb : Below w.heap.size w W) : RedoAt w (((W.setCell ⟨w.heap.size, 0, none⟩ (.int .i64 c)).setCell ⟨w.heap.size, 1, none⟩ (.slice none 0 0)).setCell ⟨w.heap.size, 2, none⟩ (.slice none 0 0)) (.returned (.agg #[.int .i64 c, .slice none 0 0, .slice none 0 0])) (c, [], []) none 0 0 none 0 0 :=
  ⟨rfl, by omega, by omega, World.ownsRow_nil _ _ _ _, World.ownsRow_nil _ _ _ _, fun g hg => by simp [Value.ownBlock] at hg, ((hb.setCell (p := ⟨w.heap.size, 0, none⟩) (Nat.le_refl _) _).setCell (p := ⟨w.heap.size, 1, none⟩) (Nat.le_refl _) _).setCell (p := ⟨w.heap.size, 2, none⟩) (Nat.le_refl _) _⟩

theorem lt_of_cells7 {w : World} {a : Option Addr} {n : Nat} {rs : List Ch.Rec} (h : CellsAt w a (n * 7) (rc7 rs)) : 0 < n → ∀ b off, a = some ⟨b, off, none⟩ → b < w.heap.size := fun h0 b off ha => by
  obtain ⟨b1, o1, e1, q1, _⟩ := h.rec h0
  rw [ha] at e1
  simp only [Option.some.injEq, Addr.mk.injEq, and_true] at e1
  obtain ⟨rfl, rfl⟩ := e1
  exact lt_of_cell q1

end Go.Proofs.Ytlpncikiaojmiaa

