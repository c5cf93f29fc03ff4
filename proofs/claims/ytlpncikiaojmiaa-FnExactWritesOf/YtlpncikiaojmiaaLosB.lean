
/- losersIn of the program: a range over the map, then a sort. -/
import Derived.Test.YtlpncikiaojmiaaLosA
import Derived.Test.YtlpncikiaojmiaaLosS
import Derived.Test.YtlpncikiaojmiaaRvC
namespace Go.Proofs.Ytlpncikiaojmiaa
open Go.RowKit Go.Maps Go.Sort

theorem gr_belowV {w w' : World} (h : Below w.heap.size w w') (row : Option Nat) : w.grownBy w' row := ⟨h.os, h.tape, h.output, h.size, fun k hk _ => h.block k hk⟩

theorem sortI_any (base g n cap : Nat) (zs : List Int) (w : World) (hrow : w.ownsRow base 2 1 (.slice (some ⟨g, 0, none⟩) n cap) n (icells zs)) (hn : n ≤ 1048576) :
    Calls Try.prog 62 #[.slice (some ⟨g, 0, none⟩) n cap] w fun e w' => e = .returned (.tuple #[]) ∧ w'.ownsRow base 2 1 (.slice (some ⟨g, 0, none⟩) n cap) n (icells (zs.mergeSort fun x y => decide (x ≤ y))) ∧ w.grownBy w' (some g) := by
  have hl : n = zs.length := by have := hrow.1; rw [icells_len] at this; omega
  subst hl
  rcases hrow.2 with ⟨hnil, _⟩ | ⟨g', cap', cur, hv, hbase, hb, h1, h2, h3, h4⟩
  · cases hnil
  cases hv
  have hH : Holds (Value.int .i64) w g 0 zs.toArray := holds_of_blockI hb (by rw [Nat.mul_one] at h4; exact h4)
  have hg : g < w.heap.size := (Array.getElem?_eq_some_iff.1 hb).1
  have hcon := AnyM.slices_Sort_int Try.sortInts g 0 cap zs w hH hg (by omega)
  change Calls Try.prog 62 _ _ _ at hcon
  refine hcon.mono ?_
  rintro e w' ⟨rfl, nn, os, rfl⟩
  exact ⟨rfl, ownsRow_sortedI (by simp) hbase hb h1 h2 h3, grownBy_sortedI _⟩

theorem sortN_any (p : Option Addr) (cap : Nat) (w : World) :
    Calls Try.prog 62 #[.slice p 0 cap] w fun e w' => e = .returned (.tuple #[]) ∧ w' = w := by
  have hcon := AnyM.slices_Sort_int_none Try.sortInts p cap w
  change Calls Try.prog 62 _ _ _ at hcon
  exact hcon

/-- What has come of the map so far. -/
structure CollF (F : Int → Ch.Ft) (left : Lit → Bool) (zs : List Int) : Prop where
  nd : zs.Nodup
  mem : ∀ t, t ∈ zs ↔ (F t).lost = true ∧ left (kF t) = false
theorem CollF.start {F : Int → Ch.Ft} {D : DataW Unit} (h : Fm F D) : CollF F (Maps.has D) [] := by
  refine ⟨List.nodup_nil, fun t => ?_⟩
  constructor
  · intro h; simp at h
  · rintro ⟨h1, h2⟩
    rw [h.none h2] at h1
    simp [Ch.Ft.lost, Ch.Ft.zero] at h1
theorem CollF.yes {F : Int → Ch.Ft} {left : Lit → Bool} {zs : List Int} (h : CollF F left zs) {t : Int} (hl : left (kF t) = true) (hF : (F t).lost = true) : CollF F (fun z => left z && !z.sameKey (kF t)) (zs ++ [t]) := by
  have hnew : t ∉ zs := fun hx => by have := ((h.mem t).1 hx).2; rw [hl] at this; cases this
  refine ⟨List.nodup_append.2 ⟨h.nd, by simp, fun a ha b hb => by simp at hb; subst hb; exact fun e1 => hnew (e1 ▸ ha)⟩, fun s => ?_⟩
  by_cases e : s = t
  · subst e
    rw [WideAt.sameKey_self (kF_isKey _)]
    simp [hF]
  · have hne : kF s ≠ kF t := kF_ne e
    rw [sameKey_ne hne]
    simp [h.mem s, e]
theorem CollF.no {F : Int → Ch.Ft} {left : Lit → Bool} {zs : List Int} (h : CollF F left zs) {t : Int} (hF : (F t).lost = false) : CollF F (fun z => left z && !z.sameKey (kF t)) zs := by
  refine ⟨h.nd, fun s => ?_⟩
  by_cases e : s = t
  · subst e
    rw [h.mem s, hF]
    simp
  · have hne : kF s ≠ kF t := kF_ne e
    rw [sameKey_ne hne]
    simp [h.mem s]
theorem CollF.done {F : Int → Ch.Ft} {left : Lit → Bool} {zs L : List Int} (h : CollF F left zs) (hl : ∀ kl, left kl = false) (hL : L.Pairwise (· < ·)) (hm : ∀ t, t ∈ L ↔ (F t).lost = true) : (zs.mergeSort fun x y => decide (x ≤ y)) = L :=
  Ch.sort_is h.nd hL (fun t => by rw [h.mem t, hm t]; simp [hl])

end Go.Proofs.Ytlpncikiaojmiaa
