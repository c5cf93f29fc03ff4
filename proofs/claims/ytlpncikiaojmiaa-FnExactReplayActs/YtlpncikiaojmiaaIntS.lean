
/- Numbers: how many, copied. -/
import Derived.Test.YtlpncikiaojmiaaMz0
namespace Go.Proofs.Ytlpncikiaojmiaa
open Go.RowKit

theorem made_ints (n : Nat) : (madeCells (Value.int .i64 0).cells (n * 1)).toList = icells (List.replicate n 0) := by
  rw [made_cells _ n 1 rfl (by decide) (fun _ => [.int .i64 0]) (fun _ => rfl)]
  induction n with
  | zero => rfl
  | succ n ih => rw [List.range_succ, List.flatMap_append, ih, List.replicate_succ', icells_append]; rfl
def icopied (zs : List Int) (n k : Nat) : List Value := icells (zs.take k ++ List.replicate (n - k) 0)
theorem icopied_end {zs : List Int} {n : Nat} (h : n = zs.length) : icopied zs n n = icells zs := by
  subst h; simp [icopied]
theorem icopied_set {zs : List Int} {n k : Nat} (h : n = zs.length) (hk : k < n) : (icopied zs n k).set k (.int .i64 (zs.getD k 0)) = icopied zs n (k + 1) := by
  unfold icopied
  rw [icells_set, fill_set zs _ _ n k h hk]

set_option maxHeartbeats 400000 in
theorem toInt64S_any (a : Option Addr) (n cap : Nat) (zs : List Int) (w : World) (h : CellsAt w a (n * 1) (icells zs)) (hn : n ≤ 1048576) :
    Calls Try.prog 12 #[.slice a n cap] w fun e w' => e = .returned (.slice (some ⟨w.heap.size, 0, none⟩) n n) ∧
      w'.ownsRow w.heap.size 2 1 (.slice (some ⟨w.heap.size, 0, none⟩) n n) n (icells zs) ∧ Below w.heap.size w w' := by
  have HL := h.ilen
  obtain ⟨i0, hi, hz0, hz1, hz2⟩ := info_parts Try.info2
  go_enter Try.func12, Try.ntmps12
  go_wp2_with (at_make; refine wpList_make_full _ rfl _ _ 24 rfl w.heap.size 2 i0 (.int .i64 0) 1 Try.underlying24 hi hz0 hz1 .i64 .i64 _ _ n rfl rfl rfl rfl (by rw [hz2]; omega) (by unfold maxLen; omega) (Nat.le_refl _) ?_; intro w0 hown0 hgrow0)
  have hB0 : Below w.heap.size w w0 := (Below.refl _ _).grown hgrow0 (Nat.le_refl _) (by simp)
  go_loopw [4] (fun i wr => ∃ k : Nat, k ≤ n ∧ i = .int .i64 k ∧ wr.ownsRow w.heap.size 2 1 (.slice (some ⟨w.heap.size, 0, none⟩) n n) n (icopied zs n k) ∧ Below w.heap.size w wr) (fun i _ => n - (intOf i).toNat)
  case atStart => exact ⟨0, Nat.zero_le _, rfl, by rw [made_ints] at hown0; simpa [icopied] using hown0, hB0⟩
  case round =>
    obtain ⟨k, hk, rfl, hown, hB⟩ := hrel
    by_cases hlt : k < n
    · obtain ⟨b, off, rfl, hc0⟩ := (h.below hB).int hlt
      have HC := hid (icopied_set HL.out hlt)
      have hbl := lt_of_cell hc0
      generalize zs.getD k 0 = z at *
      have hf0 := hown.frozenAt k
      obtain ⟨u0, hd0⟩ := owns_some hown (j := k) (by omega)
      go_wp2
      go_roundw
      case rel =>
        refine ⟨k + 1, by omega, by go_num, ?_, ?_⟩
        · rw [← HC.out]; exact (hown.stored _ _).1
        · exact hB.setCell (Nat.le_refl _) _
      case measure => simp [intOf]; omega
    · obtain rfl : k = n := by omega
      go_wp2
      go_ret
      exact ⟨rfl, by rw [icopied_end HL.out] at hown; exact hown, hB⟩
theorem toInt64S_at (H : Nat) (a : Option Addr) (n cap : Nat) (zs : List Int) (w : World) (hH : w.heap.size = H) (h : CellsAt w a (n * 1) (icells zs)) (hn : n ≤ 1048576) :
    Calls Try.prog 12 #[.slice a n cap] w fun e w' => e = .returned (.slice (some ⟨H, 0, none⟩) n n) ∧
      w'.ownsRow H 2 1 (.slice (some ⟨H, 0, none⟩) n n) n (icells zs) ∧ Below w.heap.size w w' := by
  subst hH
  exact toInt64S_any a n cap zs w h hn
end Go.Proofs.Ytlpncikiaojmiaa
