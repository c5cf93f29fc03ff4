/- The law FnExactWritesOf. -/
import Derived.Test.YtlpncikiaojmiaaWrS
import Derived.Test.YtlpncikiaojmiaaWrI
import Derived.Test.YtlpncikiaojmiaaAcK
import Derived.Test.YtlpncikiaojmiaaStL
namespace Go.Proofs.Ytlpncikiaojmiaa
open Go.RowKit

set_option maxHeartbeats 2000000 in
theorem lawWrites_any (a : Option Addr) (n cap : Nat) (txn : Int) (es : List Ch.Ac) (w : World) (h : AcAt w a n es) (hm : n ≤ 9223372036854775807) :
    Calls Try.prog 6 #[.slice a n cap, .int .i64 txn] w fun e w' => e = .returned (.bool true) ∧ Below w.heap.size w w' := by
  have HL := h.len
  by_cases hbig : 1048576 < Ch.acSize es
  · have I0 := fun W hW => szActS_any a n cap 1048576 es W hW (Nat.le_refl _) hm
    rw [← Ch.acLeft_big hbig] at I0
    go_enter Try.func6, Try.ntmps6
    go_wp2_with fail
    refine (I0 _ h).mono ?_
    rintro e w1 ⟨rfl, b1⟩
    go_wp2
    go_ret
    exact ⟨rfl, b1⟩
  · have hn : n ≤ 1048576 := by have := Ch.acSize_len (ls := es) (N := 1048576) (by omega); have := HL.out; omega
    have HS : Hid (Ch.acSize es ≤ 1048576) := by show _ ≤ _; omega
    have hal : Hid (∀ i, (Ch.acAt es i).an.length ≤ 9223372036854775807) := fun i => by have := Ch.ac_one HS.out i; omega
    have I0 := fun W hW => szActS_any a n cap 1048576 es W hW (Nat.le_refl _) hm
    obtain ⟨L, HM⟩ : ∃ L : Nat, Hid (Ch.acLeft 1048576 es = (L : Int)) := ⟨1048576 - Ch.acSize es, by show _ = _; rw [Ch.acLeft, if_pos HS.out]; have := HS.out; omega⟩
    rw [HM.out] at I0
    clear hbig
    have SI := fun (W : World) (A : Option Addr) (hW : AcAt W A n es) => specWrites_any A n n txn es W hW hn
    have II := fun (W : World) (A : Option Addr) (hW : AcAt W A n es) => implWrites_any A n n txn es W hW hn
    have HR := hid (Ch.wrR_len es txn)
    have hp0 := Ch.acPos_small HS.out n (by have := HL.out; omega)
    have IK := fun (A : Option Addr) (B : Nat) (vs : List Value) (w0 w : World) (h : OwnAc w0 B (.slice A n n) n vs es) (hb : Below w0.heap.size w0 w) => markActS_any 1 B A n n es vs w0 w h hb HS.out (by decide) (by decide)
    generalize Ch.acPos es n = pz at *
    generalize (Ch.wrR es txn).1 = c at SI II
    generalize (Ch.wrR es txn).2 = rs at SI II HR
    go_enter Try.func6, Try.ntmps6
    go_wp2_with fail
    refine (I0 _ h).mono ?_
    rintro e w0 ⟨rfl, b0⟩
    go_wp2_with fail
    refine (toActS_any a n cap es _ (h.below b0) HS.out).mono ?_
    rintro e w1 ⟨rfl, ⟨vs1, o1⟩, b1⟩
    have b1' := b0.trans (b1.mono b0.size)
    go_wp2_with fail
    refine (SI _ _ (o1.at hal.out)).mono ?_
    rintro e w2 ⟨a2, m2, c2, rfl, o2, b2⟩
    have hm2 : m2 ≤ 1048576 := by have h1 := o2.1; rw [icells_len] at h1; have := HR.out; omega
    have L2 := owns_lt o2
    have b2' := b1'.trans (b2.mono b1'.size)
    have z0 := b0.size
    have z1 := b1.size
    have z2 := b2.size
    clear b0 b1 b2 o1
    go_wp2_with fail
    refine (toActS_at (w2.heap.size + 1) a n cap es _ (by simp) (h.below (b2'.alloc b2'.size _)) HS.out).mono ?_
    rintro e w3 ⟨rfl, ⟨vs3, o3⟩, b3⟩
    have b3w := below_box b3
    have b3' := b2'.trans (b3w.mono b2'.size)
    have o2 := owns_below o2 b3w
    have x0 := box_cell b3 0
    have x1 := box_cell b3 1
    simp at x0 x1
    have a3 := o3.at hal.out
    have z3 := b3.size
    simp at z3
    go_wp2_with fail
    refine (II _ _ a3).mono ?_
    rintro e w4 ⟨a4, m4, c4, rfl, o4, b4⟩
    have L4 := owns_lt o4
    have b4' := b3'.trans (b4.mono b3'.size)
    have bx := b4
    have o2 := owns_below o2 b4
    have x0 := keep_cell b4 x0
    have x1 := keep_cell b4 x1
    have z4 := b4.size
    have lt4 : w2.heap.size < w4.heap.size := by omega
    have HM : m4 = m2 := by have e2 := o2.1; have e4 := o4.1; omega
    subst HM
    have hq : ((1 + (m4 : Int)) != 1 + m4) = false := by simp
    clear b3 b3w b2'
    go_wp2_with fail
    refine (eqIntsResult_same _ a4 a2 m4 c4 c2 rs _ (owns_cells (o4.alloc _)) (owns_cells (o2.alloc _)) (by omega)).mono ?_
    rintro e w5 ⟨rfl, b5⟩
    have y0 := box_cell b5 0
    have y1 := box_cell b5 1
    simp at y0 y1
    have b5 := below_box b5
    have b5' := b4'.trans (b5.mono b4'.size)
    have bx := bx.trans (b5.mono bx.size)
    have o2 := owns_below o2 b5
    have o4 := owns_below o4 b5
    have x0 := keep_cell b5 x0
    have x1 := keep_cell b5 x1
    go_wp2_with fail
    refine (toActS_any a n cap es _ (h.below b5') HS.out).mono ?_
    rintro e w6 ⟨rfl, ⟨vs6, o6⟩, b6⟩
    have b6' := b5'.trans (b6.mono b5'.size)
    have bx := bx.trans (b6.mono bx.size)
    have o2 := owns_below o2 b6
    have o4 := owns_below o4 b6
    have x0 := keep_cell b6 x0
    have x1 := keep_cell b6 x1
    have y0 := keep_cell b6 y0
    have y1 := keep_cell b6 y1
    go_wp2_with fail
    refine (eqActS_same _ _ n n n es _ (a3.below bx) (o6.at hal.out) HS.out).mono ?_
    rintro e w7 ⟨rfl, b7⟩
    have b7' := b6'.trans (b7.mono b6'.size)
    have bx := bx.trans (b7.mono bx.size)
    have o2 := owns_below o2 b7
    have o4 := owns_below o4 b7
    have x0 := keep_cell b7 x0
    have x1 := keep_cell b7 x1
    have y0 := keep_cell b7 y0
    have y1 := keep_cell b7 y1
    clear o6 b6' b6 b5 b5' b4 b4' b3'
    go_wp2_with fail
    refine (IK _ _ vs3 w3 _ o3 bx).mono ?_
    rintro e w8 ⟨rfl, gr8⟩
    have hk0 : ¬ (1 + (pz : Int)) < 0 := by omega
    generalize (1 + (pz : Int)) = kk at *
    have b8' := b7'.trans (gr8.toBelow (by omega) b7'.size)
    have o2 := gr8.owns o2 (fun g hg => .inl (by have := (L2 g hg).2; omega))
    have o4 := gr8.owns o4 (fun g hg => .inr (L4 g hg).1)
    have x0 := within_cell gr8 x0 (.inl (by omega))
    have x1 := within_cell gr8 x1 (.inl (by omega))
    have y0 := within_cell gr8 y0 (.inr (by omega))
    have y1 := within_cell gr8 y1 (.inr (by omega))
    clear b7' b7 o3 gr8 bx a3
    go_wp2_with fail
    refine (eqIntsResult_same _ a4 a2 m4 c4 c2 rs _ (owns_cells o4) (owns_cells o2) (by omega)).mono ?_
    rintro e w9 ⟨rfl, b9⟩
    have b9' := b8'.trans (b9.mono b8'.size)
    have o2 := owns_below o2 b9
    have o4 := owns_below o4 b9
    have x0 := keep_cell b9 x0
    have x1 := keep_cell b9 x1
    have y0 := keep_cell b9 y0
    have y1 := keep_cell b9 y1
    clear b8' b9
    go_wp2_with fail
    refine (markIntsResult_any _ _ a4 m4 c4 rs _ o4 (by omega)).mono ?_
    rintro e w10 ⟨rfl, o5, gr10⟩
    have b10' := b9'.grown gr10 b9'.size (by intro k hk; have := L4 k hk; omega)
    have o2 := owns_grown o2 gr10 (fun g hg hk => by have := L2 g hg; have := L4 g hk; omega)
    have x0 := grown_cell gr10 x0 (fun hk => by have := L4 _ hk; omega)
    have x1 := grown_cell gr10 x1 (fun hk => by have := L4 _ hk; omega)
    have y0 := grown_cell gr10 y0 (fun hk => by have := L4 _ hk; omega)
    have y1 := grown_cell gr10 y1 (fun hk => by have := L4 _ hk; omega)
    clear b9' gr10 o4
    go_wp2_with fail
    refine (heldIntsResult_any _ a4 m4 c4 _ (owns_cells o5) (by omega)).mono ?_
    rintro e w11 ⟨rfl, b11⟩
    have b11' := b10'.trans (b11.mono b10'.size)
    have o2 := owns_below o2 b11
    have o5 := owns_below o5 b11
    have x0 := keep_cell b11 x0
    have x1 := keep_cell b11 x1
    have y0 := keep_cell b11 y0
    have y1 := keep_cell b11 y1
    clear b10' b11
    go_wp2_with fail
    refine (toActS_any a n cap es _ (h.below b11') HS.out).mono ?_
    rintro e w12 ⟨rfl, ⟨vs12, o12⟩, b12⟩
    have b12' := b11'.trans (b12.mono b11'.size)
    have o2 := owns_below o2 b12
    have o5 := owns_below o5 b12
    have x0 := keep_cell b12 x0
    have x1 := keep_cell b12 x1
    have y0 := keep_cell b12 y0
    have y1 := keep_cell b12 y1
    clear b11' b12
    go_wp2_with fail
    refine (II _ _ (o12.at hal.out)).mono ?_
    rintro e w13 ⟨a13, m13, c13, rfl, o13, b13⟩
    have b13' := b12'.trans (b13.mono b12'.size)
    have o2 := owns_below o2 b13
    have o5 := owns_below o5 b13
    have x0 := keep_cell b13 x0
    have x1 := keep_cell b13 x1
    have y0 := keep_cell b13 y0
    have y1 := keep_cell b13 y1
    have HM : m13 = m4 := by have e2 := o2.1; have e4 := o13.1; omega
    subst HM
    have l1 := lt_of_cell x0
    have l2 := lt_of_cell y0
    clear b12' b13 o12
    go_wp2_with fail
    refine (eqIntsResult_same _ a13 a2 m13 c13 c2 rs _ (owns_cells (o13.alloc _)) (owns_cells (o2.alloc _)) (by omega)).mono ?_
    rintro e w14 ⟨rfl, b14⟩
    have b14 := below_box b14
    have b14' := b13'.trans (b14.mono b13'.size)
    have o5 := owns_below o5 b14
    have y0 := keep_cell b14 y0
    have y1 := keep_cell b14 y1
    clear b13' b14
    go_wp2_with fail
    refine (heldIntsResult_any _ a4 m13 c4 _ (owns_cells o5) (by omega)).mono ?_
    rintro e w15 ⟨rfl, b15⟩
    go_wp2
    go_ret
    exact ⟨rfl, b14'.trans (b15.mono b14'.size)⟩
end Go.Proofs.Ytlpncikiaojmiaa
