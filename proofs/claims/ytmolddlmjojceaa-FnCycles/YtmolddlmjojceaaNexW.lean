
/- l7Next and l7Cycle of the model. -/
import Derived.Test.YtmolddlmjojceaaFarW
namespace Go.Proofs.Ytmolddlmjojceaa
open Go.RowKit

def Ch.nextS (f : Int → Int) (x wn b : Int) (e : Int × Int) : Int := if e.1 = x ∧ f e.2 = wn ∧ (b = 0 ∨ e.2 < b) then e.2 else b
def Ch.sizeS (f : Int → Int) (t s : Int) (e : Int × Int) : Int := if e.1 = t ∧ 0 ≤ f e.2 ∧ (s < 0 ∨ f e.2 < s) then f e.2 else s
theorem Ch.fold_take {α : Type} {es : List Ch.Hold} {k : Nat} (h : k < es.length) (F : α → Int × Int → α) (b : α) : ((Ch.prE es).take (k + 1)).foldl F b = F (((Ch.prE es).take k).foldl F b) ((es.getD k Ch.Hold.zero).t, (es.getD k Ch.Hold.zero).m) := by
  have hl : k < (Ch.prE es).length := by simp [Ch.prE]; exact h
  rw [Ch.take_snoc (Ch.prE es) (0, 0) k hl, List.foldl_append]
  have : (Ch.prE es).getD k (0, 0) = ((es.getD k Ch.Hold.zero).t, (es.getD k Ch.Hold.zero).m) := by simp [Ch.prE, List.getD, h]
  rw [this]
  rfl

set_option linter.unusedSimpArgs false in
set_option maxRecDepth 20000 in
set_option maxHeartbeats 4000000 in
theorem l7Next_any (a : Option Addr) (n cap : Nat) (es : List Ch.Hold) (x wn : Int) (g c : Nat) (f : Int → Int) (w : World) (h : CellsAt w a (n * 2) (hcells es)) (hn : n ≤ 400) (hin : ∀ k, k < n → 1 ≤ (es.getD k Ch.Hold.zero).t ∧ (es.getD k Ch.Hold.zero).t ≤ 999 ∧ 1 ≤ (es.getD k Ch.Hold.zero).m ∧ (es.getD k Ch.Hold.zero).m ≤ 999) (hF : CellsAt w (some ⟨g, 0, none⟩) (1000 * 1) (icells (Ch.lst f))) :
    Calls Try.prog 35 #[.slice a n cap, .int .i64 x, .slice (some ⟨g, 0, none⟩) 1000 c, .int .i64 wn] w fun e w' => e = .returned (.int .i64 (Ch.nextM (Ch.prE es) f x wn)) ∧ w' = w := by
  have HL := h.hlen
  have HE : Hid (Ch.nextM (Ch.prE es) f x wn = ((Ch.prE es).take n).foldl (Ch.nextS f x wn) 0) := by
    show _ = _
    rw [List.take_of_length_le (by simp [Ch.prE]; have := HL.out; omega)]
    rfl
  go_enter Try.func35, Try.ntmps35
  go_wp2
  go_loop [9, 10] (fun q i => ∃ k : Nat, k ≤ n ∧ i = .int .i64 k ∧ q = .int .i64 (((Ch.prE es).take k).foldl (Ch.nextS f x wn) 0)) (fun _ i => n - (intOf i).toNat)
  case atStart => exact ⟨0, Nat.zero_le _, rfl, rfl⟩
  case round =>
    obtain ⟨k, hk, rfl, rfl⟩ := hrel
    by_cases hlt : k < n
    · have hkl : k < es.length := by have := HL.out; omega
      have HT := hid (Ch.fold_take hkl (Ch.nextS f x wn) 0)
      have hb4 := hin k hlt
      obtain ⟨b, off, rfl, q0, q1⟩ := h.hold hlt
      have hbl := lt_of_cell q0
      generalize es.getD k Ch.Hold.zero = ed at *
      obtain ⟨rt, rm⟩ := ed
      simp only at q0 q1 HT hb4
      obtain ⟨xm, rfl⟩ : ∃ y : Nat, rm = (y : Int) := ⟨rm.toNat, by omega⟩
      have hxm : xm < 1000 := by omega
      obtain ⟨b1, o1, e1, m0⟩ := hF.int (k := xm) (by omega)
      cases e1
      rw [Nat.zero_add, Ch.lst_get f hxm] at m0
      have hgz := lt_of_cell m0
      generalize ((Ch.prE es).take k).foldl (Ch.nextS f x wn) 0 = B at *
      have HS : Hid (Ch.nextS f x wn B (rt, (xm : Int)) = if rt = x ∧ f xm = wn ∧ (B = 0 ∨ (xm : Int) < B) then (xm : Int) else B) := rfl
      generalize f xm = fm at *
      clear hb4
      by_cases h1 : rt = x
      · have d1 : (rt == x) = true := by simpa using h1
        by_cases h2 : fm = wn
        · have d2 : (fm == wn) = true := by simpa using h2
          by_cases h3 : B = 0
          · have d3 : (B == 0) = true := by simpa using h3
            rw [if_pos ⟨h1, h2, .inl h3⟩] at HS
            clear h1 h2 h3
            go_wp2
            go_round
            case rel => exact ⟨k + 1, by omega, by go_num, by rw [HT.out, HS.out]⟩
            case measure => simp [intOf]; omega
          · have d3 : (B == 0) = false := by simpa using h3
            by_cases h4 : (xm : Int) < B
            · rw [if_pos ⟨h1, h2, .inr h4⟩] at HS
              clear h1 h2 h3
              go_wp2
              go_round
              case rel => exact ⟨k + 1, by omega, by go_num, by rw [HT.out, HS.out]⟩
              case measure => simp [intOf]; omega
            · rw [if_neg (fun hh => hh.2.2.elim h3 h4)] at HS
              clear h1 h2 h3
              go_wp2
              go_round
              case rel => exact ⟨k + 1, by omega, by go_num, by rw [HT.out, HS.out]⟩
              case measure => simp [intOf]; omega
        · have d2 : (fm == wn) = false := by simpa using h2
          rw [if_neg (fun hh => h2 hh.2.1)] at HS
          clear h1 h2
          go_wp2
          go_round
          case rel => exact ⟨k + 1, by omega, by go_num, by rw [HT.out, HS.out]⟩
          case measure => simp [intOf]; omega
      · have d1 : (rt == x) = false := by simpa using h1
        rw [if_neg (fun hh => h1 hh.1)] at HS
        clear h1
        go_wp2
        go_round
        case rel => exact ⟨k + 1, by omega, by go_num, by rw [HT.out, HS.out]⟩
        case measure => simp [intOf]; omega
    · obtain rfl : k = n := by omega
      rw [← HE.out]
      go_wp2
      go_ret
      exact ⟨rfl, rfl⟩
end Go.Proofs.Ytmolddlmjojceaa
