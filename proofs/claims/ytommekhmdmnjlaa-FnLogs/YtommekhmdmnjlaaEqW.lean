
/- Walks of bytes held against bytes: string(b), bytes.Equal, bytes.HasPrefix. -/
import Derived.Test.YtommekhmdmnjlaaUnpW
namespace Go.Proofs.Ytommekhmdmnjlaa
open Go.RowKit

theorem conv_none (w : World) (a : Option Addr) (cap : Nat) : (convert 22 9 (.slice a 0 cap)).run Try.prog w = .ok (.string (strOfNums [])) w := by
  rw [run_convert_bytes_string w 22 9 5 _ 0 cap Try.underlying22 Try.underlying5 Try.underlying9]
  cases a
  all_goals
    simp [Conv.bytesToString, loadCells]
    rfl

theorem conv_any {w : World} {a : Option Addr} {n : Nat} {zs : List Int} (h : CellsAt w a n (bts zs)) (cap : Nat) :
    (convert 22 9 (.slice a n cap)).run Try.prog w = .ok (.string (strOfNums zs)) w := by
  have hl := h.len.out
  rcases Nat.eq_zero_or_pos n with hn | hn
  · subst hn
    obtain rfl : zs = [] := List.eq_nil_of_length_eq_zero hl.symm
    exact conv_none w a cap
  · obtain ⟨b, off, rfl, hc⟩ := h.2 hn
    refine run_convert_bytes_arg w 22 5 Try.underlying22 Try.underlying5 b off n cap zs hl.symm (fun i hi => ?_) 9 Try.underlying9
    rw [hc i hi]
    simp [bts, List.getD, show i < zs.length by omega]

theorem byte_inj {x y : Int} (h0 : 0 ≤ x) (h1 : x ≤ 255) (k0 : 0 ≤ y) (k1 : y ≤ 255) (h : UInt8.ofNat x.toNat = UInt8.ofNat y.toNat) : x = y := by
  have := congrArg UInt8.toNat h
  simp only [UInt8.toNat_ofNat'] at this
  omega

theorem nums_eq {xs ys : List Int} (hx : IsB xs) (hy : IsB ys) : ((strOfNums xs).toList == (strOfNums ys).toList) = decide (xs = ys) := by
  rw [ByteArray.toList_eq, ByteArray.toList_eq, strOfNums_data, strOfNums_data]
  by_cases h : xs = ys
  · subst h; simp
  · rw [decide_eq_false h, beq_eq_false_iff_ne]
    intro he
    apply h
    apply List.ext_getElem?
    intro i
    have hi := congrArg (fun l => l[i]?) he
    simp only [List.getElem?_map] at hi
    have bx := hx i
    have bY := hy i
    simp only [List.getD] at bx bY
    cases hxi : xs[i]? with
    | none =>
      cases hyi : ys[i]? with
      | none => rfl
      | some y => rw [hxi, hyi] at hi; simp at hi
    | some x =>
      cases hyi : ys[i]? with
      | none => rw [hxi, hyi] at hi; simp at hi
      | some y =>
        rw [hxi, hyi] at hi
        rw [hxi] at bx
        rw [hyi] at bY
        simp only [Option.map_some, Option.some.injEq] at hi
        simp only [Option.getD_some] at bx bY
        rw [byte_inj bx.1 bx.2 bY.1 bY.2 hi]

theorem equal_any (a a' : Option Addr) (n m cap cap' : Nat) (xs ys : List Int) (w : World) (h : CellsAt w a n (bts xs)) (h' : CellsAt w a' m (bts ys)) (hx : IsB xs) (hy : IsB ys) :
    Calls Try.prog 82 #[.slice a n cap, .slice a' m cap'] w fun e w' => e = .returned (.bool (decide (xs = ys))) ∧ w' = w := by
  have c1 := conv_any h cap
  have c2 := conv_any h' cap'
  have E := nums_eq hx hy
  go_enter Try.func82, Try.ntmps82
  go_wp2
  go_ret
  exact ⟨by simp, rfl⟩

theorem CellsAt.take {w : World} {a : Option Addr} {n m : Nat} {xs : List Int} (h : CellsAt w a n (bts xs)) (hm : m ≤ n) : CellsAt w a m (bts (xs.take m)) := by
  have hl := h.len.out
  refine ⟨by simp [bts]; omega, fun h0 => ?_⟩
  obtain ⟨b, off, ha, hc⟩ := h.2 (by omega)
  refine ⟨b, off, ha, fun i hi => ?_⟩
  rw [hc i (by omega)]
  simp [bts, hi]

theorem isB_take {xs : List Int} (h : IsB xs) (m : Nat) : IsB (xs.take m) := by
  intro i
  have := h i
  by_cases hi : i < m
  · simpa [List.getD, List.getElem?_take, hi] using this
  · simp [List.getElem?_take, hi]

theorem isB_drop {xs : List Int} (h : IsB xs) (m : Nat) : IsB (xs.drop m) := by
  intro i
  have := h (m + i)
  simpa [List.getD, List.getElem?_drop] using this

theorem prefix_iff {xs ys : List Int} : decide (xs.take ys.length = ys) = decide (ys <+: xs) := by
  by_cases hp : ys <+: xs
  · rw [decide_eq_true hp, decide_eq_true_eq]
    exact (List.prefix_iff_eq_take.1 hp).symm
  · rw [decide_eq_false hp, decide_eq_false_iff_not]
    intro he
    exact hp (he ▸ List.take_prefix _ _)

set_option maxHeartbeats 400000 in
theorem hasPrefix_any (a a' : Option Addr) (n m cap cap' : Nat) (xs ys : List Int) (w : World) (h : CellsAt w a n (bts xs)) (h' : CellsAt w a' m (bts ys)) (hx : IsB xs) (hy : IsB ys) (hm : 0 < m) (hn : n ≤ 1099511627776) (hm' : m ≤ 1099511627776) (hcap : n ≤ cap) :
    Calls Try.prog 74 #[.slice a n cap, .slice a' m cap'] w fun e w' => e = .returned (.bool (decide (ys <+: xs))) ∧ w' = w := by
  have HL := h.len
  have HL' := h'.len
  by_cases hle : m ≤ n
  · have ht := h.take hle
    obtain ⟨b, off, rfl, _⟩ := h.2 (by omega)
    have i1 : (m : Int) ≤ (n : Int) := by omega
    have i2 : (m : Int) ≤ (cap : Int) := by omega
    have HP := prefix_iff (xs := xs) (ys := ys)
    rw [← HP, ← HL'.out]
    clear HP
    go_enter Try.func74, Try.ntmps74
    go_wp2_with fail
    refine (equal_any _ _ m m _ _ _ _ _ ht h' (isB_take hx m) hy).mono ?_
    rintro e w1 ⟨rfl, hw1⟩
    subst w1
    go_wp2
    go_ret
    exact ⟨rfl, rfl⟩
  · have i1 : ¬ (m : Int) ≤ (n : Int) := by omega
    have HP : Hid (¬ ys <+: xs) := by
      intro hp
      have := hp.length_le
      have := HL.out
      have := HL'.out
      omega
    rw [decide_eq_false HP.out]
    go_enter Try.func74, Try.ntmps74
    go_wp2_with fail
    go_ret
    exact ⟨rfl, rfl⟩
end Go.Proofs.Ytommekhmdmnjlaa
