/- slices.Compact of numbers at a list of one's own. -/
import Derived.Test.YtlpncikiaojmiaaProg
import Derived.Test.YtlpncikiaojmiaaLosB
import Derived.Shelf.SlicesG.CompactI
import Derived.Shelf.SlGeneric
import Derived.Shelf.Lay
import Derived.Ground.SlgnProg
import Derived.Lib.OwnBridge
namespace Go.Proofs.Ytlpncikiaojmiaa
open Go.Shelf Go.RowKit Go.Lib Go.Sort

shelf_lay_g SlLaysN.n43 Slgn 43 at Try 63 as Try.compactI

theorem compactI_any (base g n cap : Nat) (zs : List Int) (w : World) (hrow : w.ownsRow base 2 1 (.slice (some ⟨g, 0, none⟩) n cap) n (icells zs)) (hn : n ≤ 1048576) :
    Calls Try.prog 63 #[.slice (some ⟨g, 0, none⟩) n cap] w fun e w' => e = .returned (.slice (some ⟨g, 0, none⟩) (Lib.compact zs).length cap) ∧ w'.ownsRow base 2 1 (.slice (some ⟨g, 0, none⟩) (Lib.compact zs).length cap) (Lib.compact zs).length (icells (Lib.compact zs)) ∧ w.grownBy w' (some g) := by
  obtain ⟨g', cap', hv, _, _, hcap, _, hl, hH⟩ := Lib.holds_of_ownsRow hrow (by simp)
  cases hv
  subst hl
  have hcon := AnyG.slices_Compact_int Try.compactI g 0 cap zs w hH (by omega) hcap
  change Calls Try.prog 63 _ _ _ at hcon
  refine hcon.mono ?_
  rintro e w' ⟨rfl, q, rfl⟩
  have hle := Lib.compact_length_le zs
  have hc := Lib.ownsRow_putRow (q := q) (k := (Lib.compact zs).length) (ys := Lib.compact zs ++ List.replicate (zs.length - (Lib.compact zs).length) 0) hrow (by simp; omega) hle
  rw [List.take_left] at hc
  refine ⟨rfl, hc, ⟨rfl, rfl, rfl, by simp [putRow, mapBlock, Sort.ahead], fun k hk hne => ?_⟩⟩
  have : g ≠ k := fun e => hne (by rw [e])
  simp [putRow, mapBlock, Sort.ahead, Array.getElem?_modify, this]
theorem compactN_any (p : Option Addr) (cap : Nat) (w : World) :
    Calls Try.prog 63 #[.slice p 0 cap] w fun e w' => e = .returned (.slice p 0 cap) ∧ w' = w := by
  have hcon := AnyG.slices_Compact_int_empty Try.compactI p cap w
  change Calls Try.prog 63 _ _ _ at hcon
  exact hcon
end Go.Proofs.Ytlpncikiaojmiaa
