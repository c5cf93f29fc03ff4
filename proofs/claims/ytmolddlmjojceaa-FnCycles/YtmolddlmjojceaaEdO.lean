
/- edgeSetOf of the program. -/
import Derived.Test.YtmolddlmjojceaaEdY
import Derived.Test.YtmolddlmjojceaaEdB
namespace Go.Proofs.Ytmolddlmjojceaa
open Go.RowKit Go.Maps Go.Sort

theorem Ch.take_snocH {es : List Ch.Hold} {k : Nat} (h : k < es.length) : es.take (k + 1) = es.take k ++ [es.getD k Ch.Hold.zero] := Ch.take_snoc es _ k h

set_option maxHeartbeats 4000000 in
theorem setOf_any (a : Option Addr) (n cap : Nat) (es : List Ch.Hold) (w : World) (h : CellsAt w a (n * 2) (hcells es)) (hn : n ≤ 400) (hr : RngE es) :
    Calls Try.prog 16 #[.slice a n cap] w fun e w' => ∃ D, e = .returned (.map (some w.heap.size)) ∧ w'.ownsMap Try.prog 33 unitElem w.heap.size n D ∧ MpE es D ∧ w.heap.size < w'.heap.size ∧ Below w.heap.size w w' := by
  have HL := h.hlen
  have HR := hid hr
  have hmm := @run_makeMap Try.prog
  have hmade := World.ownsMap_made (H := Unit) w Try.prog 33 unitElem
  clear hr
  go_enter Try.func16, Try.ntmps16
  go_wp2
  go_loopw [9] (fun i wr => ∃ (k : Nat) (D : DataW Unit), k ≤ n ∧ i = .int .i64 k ∧ wr.ownsMap Try.prog 33 unitElem w.heap.size k D ∧ MpE (es.take k) D ∧ w.heap.size < wr.heap.size ∧ Below w.heap.size w wr) (fun i _ => n - (intOf i).toNat)
  case atStart => exact ⟨0, _, Nat.zero_le _, rfl, hmade, MpE.empty, by simp, (Below.refl _ _).alloc (Nat.le_refl _) _⟩
  case round =>
    clear hmade hmm
    obtain ⟨k, D, hk, rfl, own, mp, hsz, hB⟩ := hrel
    by_cases hlt : k < n
    · have hkl : k < es.length := by have := HL.out; omega
      have HM := hid (mp.put (own.tidy Try.keyedE) (.agg []) (es.getD k Ch.Hold.zero).t (es.getD k Ch.Hold.zero).m)
      rw [show (⟨(es.getD k Ch.Hold.zero).t, (es.getD k Ch.Hold.zero).m⟩ : Ch.Hold) = es.getD k Ch.Hold.zero from rfl, ← Ch.take_snocH hkl] at HM
      have hb4 := HR.out (es.getD k Ch.Hold.zero) (by simp [List.getD, hkl])
      obtain ⟨b, off, rfl, q0, q1⟩ := (h.below hB).hold hlt
      have hbl := lt_of_cell q0
      generalize es.getD k Ch.Hold.zero = ed at *
      obtain ⟨rt, rm⟩ := ed
      simp only at q0 q1 HM hb4
      have kB : Below wr.heap.size wr (wr.alloc (.cells #[.int .i64 rt, .int .i64 rm] 33)) := (Below.refl _ _).alloc (Nat.le_refl _) _
      have own1 := map_below own kB
      have IA := addE_any w.heap.size k D rt rm _ own1 (by omega) hb4.1 hb4.2
      have hB1 := hB.trans (kB.mono hB.size)
      have hsz1 := Nat.lt_of_lt_of_le hsz kB.size
      clear hb4 mp own own1
      go_wp2_with fail
      refine IA.mono ?_
      rintro e w2 ⟨rfl, own2, gr2⟩
      go_wp2
      go_roundw
      case rel => exact ⟨k + 1, _, by omega, by go_num, own2, HM.out, Nat.lt_of_lt_of_le hsz1 gr2.size, hB1.grown gr2 hB1.size (fun j hj => by cases hj; exact Nat.le_refl _)⟩
      case measure => simp [intOf]; omega
    · obtain rfl : k = n := by omega
      have HM : Hid (MpE es D) := by have := mp; rw [List.take_of_length_le (by have := HL.out; omega)] at this; exact this
      clear mp
      go_wp2
      go_ret
      exact ⟨D, rfl, own, HM.out, hsz, hB⟩
end Go.Proofs.Ytmolddlmjojceaa
