
/- l7Far of the model. -/
import Derived.Test.YtmolddlmjojceaaGen
import Derived.Test.YtmolddlmjojceaaLkN
import Derived.Test.YtmolddlmjojceaaAppX
import Derived.Test.YtmolddlmjojceaaCycR
namespace Go.Proofs.Ytmolddlmjojceaa
open Go.RowKit

/-- An edge as two numbers. -/
def Ch.prE (es : List Ch.Hold) : List (Int × Int) := es.map (fun e => (e.t, e.m))
/-- What is told of each number up to 999, as a list. -/
def Ch.lst (f : Int → Int) : List Int := (List.range 1000).map (fun x => f (x : Nat))
theorem Ch.lst_len (f : Int → Int) : (Ch.lst f).length = 1000 := by simp [Ch.lst]
theorem Ch.lst_get (f : Int → Int) {k : Nat} (h : k < 1000) : (Ch.lst f).getD k 0 = f k := by simp [Ch.lst, List.getD, h]
theorem Ch.lst_set (f : Int → Int) {k : Nat} (v : Int) : (Ch.lst f).set k v = Ch.lst (fun y => if y = (k : Int) then v else f y) := by
  apply List.ext_getElem?
  intro i
  by_cases hi : i < 1000
  · by_cases hk : k = i
    · subst hk
      simp [Ch.lst, hi]
    · have : ¬ (i : Int) = (k : Int) := by omega
      rw [List.getElem?_set_ne hk]
      simp [Ch.lst, hi, this]
  · rw [List.getElem?_eq_none (by simp [Ch.lst]; omega), List.getElem?_eq_none (by simp [Ch.lst]; omega)]
theorem Ch.lst_rep (t : Int) {k : Nat} (hk : t = (k : Int)) : (List.replicate 1000 (-1 : Int)).set k 0 = Ch.lst (fun x => if x = t then 0 else -1) := by
  have : List.replicate 1000 (-1 : Int) = Ch.lst (fun _ => -1) := by
    unfold Ch.lst
    have hm : ∀ (m : Nat), List.replicate m (-1 : Int) = (List.range m).map (fun _ => (-1 : Int)) := by
      intro m
      rw [List.map_const', List.length_range]
    exact hm 1000
  rw [this, Ch.lst_set, hk]
theorem Ch.pr_take {es : List Ch.Hold} {k : Nat} (h : k < es.length) (r : Nat) (f : Int → Int) : ((Ch.prE es).take (k + 1)).foldl (Ch.farOne r) f = Ch.farOne r (((Ch.prE es).take k).foldl (Ch.farOne r) f) ((es.getD k Ch.Hold.zero).t, (es.getD k Ch.Hold.zero).m) := by
  have hl : k < (Ch.prE es).length := by simp [Ch.prE]; exact h
  rw [Ch.take_snoc (Ch.prE es) (0, 0) k hl, List.foldl_append]
  have : (Ch.prE es).getD k (0, 0) = ((es.getD k Ch.Hold.zero).t, (es.getD k Ch.Hold.zero).m) := by simp [Ch.prE, List.getD, h]
  rw [this]
  rfl
theorem new_one (w : World) (r : Int) (t : TypeId) : CellsAt (w.alloc (.cells #[.int .i64 r] t)) (some ⟨w.heap.size, 0, none⟩) (1 * 1) (icells [r]) := by
  refine ⟨rfl, fun _ => ⟨_, _, rfl, fun i hi => ?_⟩⟩
  rw [Nat.zero_add]
  have := cell_of_row (w.alloc (.cells #[.int .i64 r] t)) _ i _ _ _ (heap_alloc_new w _)
  rw [this]
  simp [icells]

set_option linter.unusedSimpArgs false in
set_option maxRecDepth 20000 in
set_option maxHeartbeats 8000000 in
theorem l7Far_any (a : Option Addr) (n cap : Nat) (es : List Ch.Hold) (t : Int) (w : World) (h : CellsAt w a (n * 2) (hcells es)) (hn : n ≤ 400) (hin : ∀ k, k < n → 1 ≤ (es.getD k Ch.Hold.zero).t ∧ (es.getD k Ch.Hold.zero).t ≤ 999 ∧ 1 ≤ (es.getD k Ch.Hold.zero).m ∧ (es.getD k Ch.Hold.zero).m ≤ 999) (ht : 1 ≤ t ∧ t ≤ 999) :
    Calls Try.prog 34 #[.slice a n cap, .int .i64 t] w fun e w' => ∃ g c', e = .returned (.slice (some ⟨g, 0, none⟩) 1000 c') ∧ w'.ownsRow w.heap.size 2 1 (.slice (some ⟨g, 0, none⟩) 1000 c') 1000 (icells (Ch.lst (Ch.farN (Ch.prE es) t n))) ∧ Below w.heap.size w w' := by
  have HL := h.hlen
  obtain ⟨tn, rfl⟩ : ∃ k : Nat, t = (k : Int) := ⟨t.toNat, by omega⟩
  obtain ⟨i0, hi0, hz0, hz1, hz2⟩ := info_parts Try.info2
  have o0 : (w.alloc (.cells #[] 2)).ownsRow w.heap.size 2 1 (.slice (some ⟨w.heap.size, 0, none⟩) 0 0) 0 (icells []) := World.ownsRow_lit w #[] 0 (Nat.le_refl _) (by unfold maxLen; omega) rfl
  have b0 : Below w.heap.size w (w.alloc (.cells #[] 2)) := (Below.refl _ _).alloc (Nat.le_refl _) _
  go_enter Try.func34, Try.ntmps34
  go_wp2
  go_loopw [5, 6] (fun q i wr => ∃ (k : Nat) (a' : Option Addr) (c' : Nat), k ≤ 1000 ∧ i = .int .i64 k ∧ q = .slice a' k c' ∧ wr.ownsRow w.heap.size 2 1 (.slice a' k c') k (icells (List.replicate k (-1))) ∧ Below w.heap.size w wr) (fun _ i _ => 1000 - (intOf i).toNat)
  case atStart => exact ⟨0, _, _, by omega, rfl, rfl, by simpa using o0, b0⟩
  case round =>
    clear o0 b0
    obtain ⟨k, a', c', hk, rfl, rfl, own, hB⟩ := hrel
    by_cases hlt : k < 1000
    · have HR : Hid (List.replicate (k + 1) (-1 : Int) = List.replicate k (-1) ++ [-1]) := by show _ = _; rw [List.replicate_succ']
      generalize List.replicate k (-1 : Int) = zs at *
      have kN : Below wr.heap.size wr (wr.alloc (.cells #[.int .i64 (-1)] 2)) := (Below.refl _ _).alloc (Nat.le_refl _) _
      have oN := owns_below own kN
      have hb3 : w.heap.size ≤ (wr.alloc (.cells #[.int .i64 (-1)] 2)).heap.size := by have := hB.size; simp; omega
      have hsum : k + 1 ≤ 4194304 := by omega
      have hlt' : k ≤ 999 := by omega
      go_wp2_with (at_builtin; go_must (refine wpList_appX Try.underlying27 Try.underlying27 hi0 hz0 hz1 hz2 rfl (by omega) (by omega) (.tmp 14) (.tmp 15) ?_ ?_ w.heap.size (.slice a' k c') k (icells zs) _ 1 1 (icells [-1]) ?_ ?_ oN (new_one wr (-1) 2) (icells_one' [-1]) hsum hb3 ?_; exact rfl; exact rfl; exact rfl; exact rfl; intro a5 c5 w5 own5 gr5 at5))
      go_roundw
      case rel =>
        rw [← icells_append, ← HR.out] at own5
        have bN := hB.trans (kN.mono hB.size)
        exact ⟨k + 1, a5, c5, by omega, by go_num, rfl, own5, bN.grown gr5 bN.size (fun g hg => (owns_lt own g hg).1)⟩
      case measure => simp [intOf]; omega
    · obtain rfl : k = 1000 := by omega
      have hk9 : ¬ ((1000 : Nat) : Int) ≤ 999 := by omega
      rcases own.2 with ⟨hv, h0⟩ | ⟨g, cp, cur, hv, _⟩
      · omega
      simp only [Value.slice.injEq, true_and] at hv
      obtain ⟨rfl, rfl⟩ := hv
      have hf0 := own.frozenAt tn
      obtain ⟨u0, hd0⟩ := owns_some own (j := tn) (by omega)
      have htn : tn < 1000 := by omega
      have hgw := (owns_bounds own).1
      have own1 := (own.stored tn (.int .i64 0)).1
      have hB1 := hB.grown (own.stored tn (.int .i64 0)).2 hB.size (fun k hk => by simp at hk; omega)
      rw [icells_set, Ch.lst_rep (tn : Int) rfl] at own1
      clear hB
      go_wp2
      go_loopw [7] (fun rr wx => ∃ r : Nat, r ≤ n ∧ rr = .int .i64 r ∧ wx.ownsRow w.heap.size 2 1 (.slice (some ⟨g, 0, none⟩) 1000 c') 1000 (icells (Ch.lst (Ch.farN (Ch.prE es) tn r))) ∧ Below w.heap.size w wx) (fun rr _ => n - (intOf rr).toNat)
      case atStart => exact ⟨0, Nat.zero_le _, rfl, own1, hB1⟩
      case round =>
        clear own1 hB1 own hf0 hd0
        rename_i wx
        obtain ⟨r, hr, rfl, own2, hB2⟩ := hrel
        by_cases hrn : r < n
        · go_wp2
          go_loopw [8] (fun i wy => ∃ k : Nat, k ≤ n ∧ i = .int .i64 k ∧ wy.ownsRow w.heap.size 2 1 (.slice (some ⟨g, 0, none⟩) 1000 c') 1000 (icells (Ch.lst (((Ch.prE es).take k).foldl (Ch.farOne r) (Ch.farN (Ch.prE es) tn r)))) ∧ Below w.heap.size w wy) (fun i _ => n - (intOf i).toNat)
          case atStart => exact ⟨0, Nat.zero_le _, rfl, by simpa using own2, hB2⟩
          case round =>
            clear own2 hB2
            rename_i wy
            obtain ⟨k, hk, rfl, own3, hB3⟩ := hrel
            by_cases hlt : k < n
            · have hkl : k < es.length := by have := HL.out; omega
              have HT := hid (Ch.pr_take hkl r (Ch.farN (Ch.prE es) tn r))
              have hb4 := hin k hlt
              obtain ⟨b, off, rfl, q0, q1⟩ := (h.below hB3).hold hlt
              have hbl := lt_of_cell q0
              generalize es.getD k Ch.Hold.zero = ed at *
              obtain ⟨rt, rm⟩ := ed
              simp only at q0 q1 HT hb4
              obtain ⟨xt, rfl⟩ : ∃ x : Nat, rt = (x : Int) := ⟨rt.toNat, by omega⟩
              obtain ⟨xm, rfl⟩ : ∃ x : Nat, rm = (x : Int) := ⟨rm.toNat, by omega⟩
              have hxt : xt < 1000 := by omega
              have hxm : xm < 1000 := by omega
              clear hb4
              generalize ((Ch.prE es).take k).foldl (Ch.farOne r) (Ch.farN (Ch.prE es) tn r) = G at *
              obtain ⟨b1, o1, e1, m0⟩ := (owns_cells own3).int (k := xm) (by omega)
              cases e1
              obtain ⟨b2, o2, e2, t0⟩ := (owns_cells own3).int (k := xt) (by omega)
              cases e2
              rw [Nat.zero_add, Ch.lst_get G hxm] at m0
              rw [Nat.zero_add, Ch.lst_get G hxt] at t0
              have hfz := own3.frozenAt xt
              have own4 := fun v => (own3.stored xt (.int .i64 v)).1
              have gr4 := fun v => (own3.stored xt (.int .i64 v)).2
              have hgz := lt_of_cell m0
              by_cases hm : G xm = r
              · have em : (G xm == (r : Int)) = true := by simpa using hm
                by_cases hneg : G xt < 0
                · have HG : Hid (Ch.farOne r G ((xt : Int), (xm : Int)) = fun y => if y = (xt : Int) then (r : Int) + 1 else G y) := by show _ = _; unfold Ch.farOne; rw [if_pos ⟨hm, hneg⟩]
                  have Hst := hid (own4 ((r : Int) + 1))
                  rw [icells_set, Ch.lst_set] at Hst
                  have HB4 := hid (hB3.grown (gr4 ((r : Int) + 1)) hB3.size (fun k hk => by simp at hk; omega))
                  clear own4 gr4
                  generalize G xm = gm at *
                  generalize G xt = gt at *
                  go_wp2
                  go_roundw
                  case rel => exact ⟨k + 1, by omega, by go_num, by rw [HT.out, HG.out]; exact Hst.out, HB4.out⟩
                  case measure => simp [intOf]; omega
                · have HG : Hid (Ch.farOne r G ((xt : Int), (xm : Int)) = G) := by show _ = _; unfold Ch.farOne; rw [if_neg (fun hh => hneg hh.2)]
                  clear own4 gr4
                  generalize G xm = gm at *
                  generalize G xt = gt at *
                  go_wp2
                  go_roundw
                  case rel => exact ⟨k + 1, by omega, by go_num, by rw [HT.out, HG.out]; exact own3, hB3⟩
                  case measure => simp [intOf]; omega
              · have em : (G xm == (r : Int)) = false := by simpa using hm
                have HG : Hid (Ch.farOne r G ((xt : Int), (xm : Int)) = G) := by show _ = _; unfold Ch.farOne; rw [if_neg (fun hh => hm hh.1)]
                clear own4 gr4
                generalize G xm = gm at *
                generalize G xt = gt at *
                go_wp2
                go_roundw
                case rel => exact ⟨k + 1, by omega, by go_num, by rw [HT.out, HG.out]; exact own3, hB3⟩
                case measure => simp [intOf]; omega
            · obtain rfl : k = n := by omega
              have HE : Hid (((Ch.prE es).take k).foldl (Ch.farOne r) (Ch.farN (Ch.prE es) tn r) = Ch.farN (Ch.prE es) tn (r + 1)) := by
                show _ = _
                rw [List.take_of_length_le (by simp [Ch.prE]; have := HL.out; omega)]
                rfl
              rw [HE.out] at own3
              go_wp2
              go_roundw
              case rel => exact ⟨r + 1, by omega, by go_num, own3, hB3⟩
              case measure => simp [intOf]; omega
        · obtain rfl : r = n := by omega
          go_wp2
          go_ret
          exact ⟨g, c', rfl, own2, hB2⟩
end Go.Proofs.Ytmolddlmjojceaa
