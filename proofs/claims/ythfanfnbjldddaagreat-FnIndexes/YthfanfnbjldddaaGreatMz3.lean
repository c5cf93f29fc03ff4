/- Several texts in one: PrA, PrP. -/
import Derived.Test.YthfanfnbjldddaaGreatRowa
import Derived.Test.YthfanfnbjldddaaGreatHd
import Derived.Test.YthfanfnbjldddaaGreatPlaceW
import Derived.Test.YthfanfnbjldddaaGreatFindI
import Derived.Test.YthfanfnbjldddaaGreatMz2


/- Pairs of the index in memory (two numbers each): the laws' functions on them. -/
namespace Go.Proofs.YthfanfnbjldddaaGreat
open Go.RowKit

theorem Tryz.info55 : (Tryz.prog.info? 55).map (fun i => (i.zero, i.size, i.bytes)) = some (some (.agg #[.int .i64 0, .int .i64 0]), 2, 16) := by kernel_rfl

end Go.Proofs.YthfanfnbjldddaaGreat


/- The map of pairs by key. -/
namespace Go.Proofs.YthfanfnbjldddaaGreat
open Go.RowKit Go.Maps

def prD (p : Ch.Hold) : DataW Unit := .agg [.lit (.int .i64 p.t), .lit (.int .i64 p.m)]
/-- What the map holds behind k pairs. -/
structure MpK (ps : List Ch.Hold) (k : Nat) (D : DataW Unit) : Prop where
  has : ∀ j, j < k → Maps.has D (kk (ps.getD j Ch.Hold.zero).m) = true
  only : ∀ kl, Maps.has D kl = true → ∃ j, j < k ∧ kl = kk (ps.getD j Ch.Hold.zero).m
  val : (Ch.keysOf (ps.take k)).Nodup → ∀ j, j < k → ∀ z, D.atKey (kk (ps.getD j Ch.Hold.zero).m) z = prD (ps.getD j Ch.Hold.zero)
  one : (Ch.keysOf (ps.take k)).Nodup → Maps.size D = k
  two : ¬ (Ch.keysOf (ps.take k)).Nodup → Maps.size D < k
theorem MpK.empty (ps : List Ch.Hold) : MpK ps 0 (.map []) :=
  ⟨fun j h => by omega, fun kl h => by simp [Maps.has] at h, fun _ j h => by omega, fun _ => rfl, fun h => absurd (by simp [Ch.keysOf]) h⟩
theorem kk_inj {a b : Int} (h : kk a = kk b) : a = b := by unfold kk at h; simpa using h
theorem MpK.put {ps : List Ch.Hold} {k : Nat} {D : DataW Unit} (h : MpK ps k D) (hD : Tidy D) (hk : k < ps.length) : MpK ps (k + 1) (D.put (kk (ps.getD k Ch.Hold.zero).m) (prD (ps.getD k Ch.Hold.zero))) := by
  have hnd : (Ch.keysOf (ps.take (k + 1))).Nodup → (Ch.keysOf (ps.take k)).Nodup ∧ ∀ j, j < k → (ps.getD j Ch.Hold.zero).m ≠ (ps.getD k Ch.Hold.zero).m := fun hn => by
    rw [Ch.keys_next hk, List.nodup_append] at hn
    refine ⟨hn.1, fun j hj => ?_⟩
    exact hn.2.2 _ ((Ch.mem_keys (by omega)).2 ⟨j, hj, rfl⟩) _ (by simp)
  have hsz := size_put (k := kk (ps.getD k Ch.Hold.zero).m) hD (prD (ps.getD k Ch.Hold.zero))
  refine ⟨fun j hj => ?_, fun kl hkl => ?_, fun hn j hj z => ?_, fun hn => ?_, fun hn => ?_⟩
  · by_cases e : (ps.getD j Ch.Hold.zero).m = (ps.getD k Ch.Hold.zero).m
    · rw [e]; exact has_put_same hD.isMap (kk_isKey _) _
    · rw [has_put_other (kk_ne e)]
      refine h.has j ?_
      have : j ≠ k := fun e2 => e (by rw [e2])
      omega
  · by_cases e : kl = kk (ps.getD k Ch.Hold.zero).m
    · exact ⟨k, by omega, e⟩
    · rw [has_put_other e] at hkl
      obtain ⟨j, hj, hx⟩ := h.only kl hkl
      exact ⟨j, by omega, hx⟩
  · obtain ⟨hn1, hn2⟩ := hnd hn
    by_cases e : j = k
    · subst e; exact atKey_put_same hD.isMap (kk_isKey _) _ z
    · rw [atKey_put_other (kk_ne (hn2 j (by omega)))]
      exact h.val hn1 j (by omega) z
  · obtain ⟨hn1, hn2⟩ := hnd hn
    have hno : Maps.has D (kk (ps.getD k Ch.Hold.zero).m) = false := by
      cases hb : Maps.has D (kk (ps.getD k Ch.Hold.zero).m)
      · rfl
      · obtain ⟨j, hj, hx⟩ := h.only _ hb
        exact absurd (kk_inj hx).symm (hn2 j hj)
    rw [hsz, hno, h.one hn1]; rfl
  · have hle : Maps.size D ≤ k := by
      by_cases hn1 : (Ch.keysOf (ps.take k)).Nodup
      · rw [h.one hn1]; exact Nat.le_refl _
      · exact Nat.le_of_lt (h.two hn1)
    by_cases hb : Maps.has D (kk (ps.getD k Ch.Hold.zero).m) = true
    · rw [hsz, hb, if_pos rfl]; omega
    · by_cases hn1 : (Ch.keysOf (ps.take k)).Nodup
      · exfalso
        refine hn (Ch.nodup_next hk hn1 fun j hj e => hb ?_)
        rw [← e]; exact h.has j hj
      · rw [hsz, if_neg hb]
        have := h.two hn1
        omega

set_option maxHeartbeats 1600000 in
theorem byKey_any (a : Option Addr) (n cap : Nat) (ps : List Ch.Hold) (w : World) (h : CellsAt w a (n * 2) (hcells ps)) (hn : n ≤ 240) (hr : ∀ p ∈ ps, Ch.inB p.m 0 99 = true) :
    Calls Tryz.prog 31 #[.slice a n cap] w fun e w' => ∃ D, e = .returned (.map (some w.heap.size)) ∧ w'.ownsMap Tryz.prog 2 plElem w.heap.size n D ∧ MpK ps n D ∧ Below w.heap.size w w' := by
  have HL := h.hlen
  have HR := hid hr
  have hmm := @run_makeMap Tryz.prog
  have hmade := World.ownsMap_made w Tryz.prog 2 plElem
  clear hr
  go_enter Tryz.func31, Tryz.ntmps31
  go_wp2
  go_loopw [9] (fun i wr => ∃ (k : Nat) (D : DataW Unit), k ≤ n ∧ i = .int .i64 k ∧ wr.ownsMap Tryz.prog 2 plElem w.heap.size k D ∧ MpK ps k D ∧ Below w.heap.size w wr) (fun i _ => n - (intOf i).toNat)
  case atStart => exact ⟨0, _, Nat.zero_le _, rfl, hmade, MpK.empty ps, (Below.refl _ _).alloc (Nat.le_refl _) _⟩
  case round =>
    clear hmade
    obtain ⟨k, D, hk, rfl, own, hP, hB⟩ := hrel
    by_cases hlt : k < n
    · have hkl : k < ps.length := by have := HL.out; omega
      have HK := hid (inB_key (HR.out _ (Ch.getD_mem' hkl)))
      have HP := hid (hP.put (own.tidy Tryz.keyed) hkl)
      clear hP
      obtain ⟨b, off, rfl, q0, q1⟩ := (h.below hB).hold hlt
      have hbl := lt_of_cell q0
      generalize ps.getD k Ch.Hold.zero = r at *
      obtain ⟨rt, rm⟩ := r
      simp only at q0 q1
      have hkey := kk_key (key := rm) HK.out.1 HK.out.2
      go_wp2_with (at_mapUpdate; go_must (refine wpList_mapUpdate_own _ rfl _ _ _ 70 rfl 2 55 Tryz.keyed Tryz.underlying70 plElem w.heap.size k D rfl (own.alloc _) ?_ _ _ _ rfl rfl hkey _ [] (plElem_mk _ _) ?_; (focus (unfold maxLen; omega)); intro w1 own1 gr1))
      go_roundw
      case rel => exact ⟨k + 1, _, by omega, by go_num, own1, HP.out, (hB.alloc hB.size _).grown gr1 (by simp; exact Nat.le_trans hB.size (by omega)) (fun j hj => by cases hj; exact Nat.le_refl _)⟩
      case measure => simp [intOf]; omega
    · obtain rfl : k = n := by omega
      go_wp2
      go_ret
      exact ⟨D, rfl, own, hP, hB⟩
end Go.Proofs.YthfanfnbjldddaaGreat

