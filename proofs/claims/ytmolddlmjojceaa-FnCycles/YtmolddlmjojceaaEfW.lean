
/- edgesFrom of the program. -/
import Derived.Test.YtmolddlmjojceaaBinW
namespace Go.Proofs.Ytmolddlmjojceaa
open Go.RowKit

/-- The address behind k edges. -/
def cutE (a : Option Addr) (cap k : Nat) : Option Addr := if cap = k then a else a.map (·.add (k * 2))
theorem hcells_dropE (hs : List Ch.Hold) (k : Nat) : hcells (hs.drop k) = (hcells hs).drop (k * 2) := by
  induction hs generalizing k with
  | nil => simp [hcells]
  | cons x xs ih =>
    cases k with
    | zero => simp
    | succ k =>
      rw [List.drop_succ_cons, ih k, show (k + 1) * 2 = k * 2 + 2 from by omega]
      simp [hcells]
theorem CellsAt.cutE {w : World} {a : Option Addr} {n cap k m : Nat} {es : List Ch.Hold} (h : CellsAt w a (n * 2) (hcells es)) (hk : k ≤ m) (hm : m ≤ n) (hcap : n ≤ cap) : CellsAt w (cutE a cap k) ((m - k) * 2) (hcells ((es.drop k).take (m - k))) := by
  have hl := h.hlen.out
  refine ⟨by rw [hcells_len]; simp; omega, fun h0 => ?_⟩
  obtain ⟨b, off, rfl, hc⟩ := h.2 (by omega)
  refine ⟨b, off + k * 2, ?_, fun i hi => ?_⟩
  · unfold Go.Proofs.Ytmolddlmjojceaa.cutE
    rw [if_neg (by omega)]
    simp only [Option.map_some, Option.some.injEq]
    unfold Addr.add
    split
    · next h0 => rw [h0]; rfl
    · rfl
  · rw [Nat.add_assoc, hc (k * 2 + i) (by omega), hcells_take, hcells_dropE, List.getElem?_take_of_lt (by omega), List.getElem?_drop]

theorem sliceE (a : Option Addr) (n cap k m : Nat) (hk : k ≤ m) (hm : m ≤ cap) (w : World) :
    (Instr.slice 24 (.slice a n cap) (some (.int .i64 (k : Int))) (some (.int .i64 (m : Int))) none).run Try.prog w = .ok (.slice (cutE a cap k) (m - k) (cap - k)) w := by
  have h0 : (0 : Int) ≤ (k : Int) := by omega
  have h1 : (k : Int) ≤ (m : Int) := by omega
  have h2 : (m : Int) ≤ (cap : Int) := by omega
  have hu : Try.prog.underlying 24 = some (.slice (Try.prog.elem 24)) := by kernel_rfl
  have he : Try.prog.elem 24 = 33 := by kernel_rfl
  have hs := Try.sizeOf33
  rw [← he] at hs
  unfold cutE
  rw [run_slice_lh (ht := hu) (h0 := h0) (h1 := h1) (h2 := h2), hs]
  simp [Result.andThen, sliced]

set_option linter.unusedSimpArgs false in
set_option maxHeartbeats 4000000 in
theorem edgesFrom_any (a : Option Addr) (n cap : Nat) (es : List Ch.Hold) (x : Int) (w : World) (h : CellsAt w a (n * 2) (hcells es)) (hn : n ≤ 1048576) (hcap : n ≤ cap) (hs : ∀ i j, i ≤ j → j < n → (es.getD i Ch.Hold.zero).t ≤ (es.getD j Ch.Hold.zero).t) (hp : ∀ k, k < n → 1 ≤ (es.getD k Ch.Hold.zero).m) (hx : 0 ≤ x ∧ x ≤ 1000000) :
    Calls Try.prog 28 #[.slice a n cap, .int .i64 x] w fun e w' => ∃ k m : Nat, e = .returned (.slice (cutE a cap k) (m - k) (cap - k)) ∧ Hid (Ch.AtE es n x k) ∧ Hid (Ch.AtE es n (x + 1) m) ∧ k ≤ m ∧ m ≤ n ∧ Below w.heap.size w w' := by
  have HS := hid hs
  have SR := fun (y : Int) (W : World) (hW : Below w.heap.size w W) => searchE_any a n cap es y W (h.below hW) hn hs hp
  clear hs hp
  have hx1 : IntKind.i64.wrap (x + 1) = x + 1 := by simp [IntKind.wrap, IntKind.signed, IntKind.bits, go_sem]; omega
  go_enter Try.func28, Try.ntmps28
  go_wp2_with fail
  refine (SR x _ (Below.refl _ _)).mono ?_
  rintro e w1 ⟨k, b1, rfl, AK, B1⟩
  have AK := hid AK
  go_wp2_with fail
  refine (SR (x + 1) _ B1).mono ?_
  rintro e w2 ⟨m, b2, rfl, AM, B2⟩
  have AM := hid AM
  have hkm : k ≤ m := by
    have h1 := AK.out; have h2 := AM.out
    rcases Nat.lt_or_ge m k with hlt | hge
    · have e1 := h1.2.1 m hlt
      have e2 := h2.2.2 m (Nat.le_refl _) (by have := h1.1; omega)
      omega
    · exact hge
  have hmn : m ≤ n := AM.out.1
  have SL := sliceE a n cap k m hkm (by omega)
  have B := B1.trans (B2.mono B1.size)
  clear SR hcap
  go_wp2_with fail
  go_ret
  exact ⟨k, m, rfl, AK, AM, hkm, hmn, B⟩
end Go.Proofs.Ytmolddlmjojceaa
