/- The law FnExactStrictActs. -/
import Derived.Test.YtlpncikiaojmiaaStS
import Derived.Test.YtlpncikiaojmiaaAcW
namespace Go.Proofs.Ytlpncikiaojmiaa
open Go.RowKit

theorem toActS_at (H : Nat) (a : Option Addr) (n cap : Nat) (ls : List Ch.Ac) (w : World) (hH : w.heap.size = H) (h : AcAt w a n ls) (hs : Ch.acSize ls ≤ 1048576) :
    Calls Try.prog 11 #[.slice a n cap] w fun e w' => e = .returned (.slice (some ⟨H, 0, none⟩) n n) ∧ (∃ vs, OwnAc w' H (.slice (some ⟨H, 0, none⟩) n n) n vs ls) ∧ Below w.heap.size w w' := by
  subst hH
  exact toActS_any a n cap ls w h hs

set_option maxHeartbeats 1000000 in
theorem lawStrict_any (a : Option Addr) (n cap : Nat) (ts : List Ch.Ac) (w : World) (h : AcAt w a n ts) (hm : n ≤ 9223372036854775807) :
    Calls Try.prog 4 #[.slice a n cap] w fun e w' => e = .returned (.bool true) ∧ Below w.heap.size w w' := by
  have HL := h.len
  by_cases hs : Ch.acSize ts ≤ 1048576
  · have hn : n ≤ 1048576 := by have := Ch.acSize_len hs; have := HL.out; omega
    obtain ⟨M, HM⟩ : ∃ M : Nat, Hid (Ch.acLeft 1048576 ts = (M : Int)) := ⟨1048576 - Ch.acSize ts, by show _ = _; rw [Ch.acLeft, if_pos hs]; omega⟩
    have HS := hid hs
    clear hs
    obtain ⟨Z, HZ⟩ : ∃ Z, Hid (Ch.strictR ts = Z) := ⟨_, rfl⟩
    have hzz : (Z != Z) = false := by simp
    have hcm : n ≤ 9223372036854775807 := hm
    go_enter Try.func4, Try.ntmps4
    go_wp2_with fail
    refine (szActS_any a n cap 1048576 ts _ h (Nat.le_refl _) hm).mono ?_
    rintro e w1 ⟨rfl, b1⟩
    rw [HM.out]
    go_wp2_with fail
    refine (toActS_any a n cap ts _ (h.below b1) HS.out).mono ?_
    rintro e w2 ⟨rfl, ⟨vs2, o2⟩, b2⟩
    have B2 := b1.trans (b2.mono b1.size)
    go_wp2_with fail
    refine (specStrict_any _ n n ts _ (o2.at (fun i => by have := Ch.ac_one HS.out i; omega)) hn).mono ?_
    rintro e w3 ⟨rfl, b3⟩
    rw [HZ.out]
    have B3 := B2.trans (b3.mono B2.size)
    clear o2 b1 b2 b3 B2
    go_wp2_with fail
    refine (toActS_any a n cap ts _ (h.below B3) HS.out).mono ?_
    rintro e w4 ⟨rfl, ⟨vs4, o4⟩, b4⟩
    have B4 := B3.trans (b4.mono B3.size)
    have a4 := o4.at (fun i => by have := Ch.ac_one HS.out i; omega)
    clear o4
    go_wp2_with fail
    refine (implStrict_any _ n n ts _ a4 hn (Nat.le_refl _) hcm).mono ?_
    rintro e w5 ⟨rfl, b5⟩
    rw [HZ.out]
    have B5 := B4.trans (b5.mono B4.size)
    go_wp2_with fail
    refine (toActS_any a n cap ts _ (h.below B5) HS.out).mono ?_
    rintro e w6 ⟨rfl, ⟨vs6, o6⟩, b6⟩
    have B6 := B5.trans (b6.mono B5.size)
    go_wp2_with fail
    refine (eqActS_same _ _ n n n ts _ ((a4.below b5).below b6) (o6.at (fun i => by have := Ch.ac_one HS.out i; omega)) HS.out).mono ?_
    rintro e w7 ⟨rfl, b7⟩
    have B7 := B6.trans (b7.mono B6.size)
    go_wp2
    go_ret
    exact ⟨rfl, B7⟩
  · have HM : Hid (Ch.acLeft 1048576 ts = -1) := (Ch.acLeft_big (by omega)).symm
    go_enter Try.func4, Try.ntmps4
    go_wp2_with fail
    refine (szActS_any a n cap 1048576 ts _ h (Nat.le_refl _) hm).mono ?_
    rintro e w1 ⟨rfl, b1⟩
    rw [HM.out]
    go_wp2
    go_ret
    exact ⟨rfl, b1⟩
end Go.Proofs.Ytlpncikiaojmiaa
