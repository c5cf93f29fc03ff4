/- Several texts in one: IxT, IxU. -/
import Derived.Test.YthfanfnbjldddaaGreatMz5
import Derived.Test.YthfanfnbjldddaaGreatIxS
import Derived.Test.YthfanfnbjldddaaGreatMz6


/- TurnIndex of the program: what is asked ahead, and the index turned. -/
namespace Go.Proofs.YthfanfnbjldddaaGreat
open Go.RowKit Go.Maps

theorem row3' {w : World} {b : Nat} {t : TypeId} {f : Nat × Nat} {c0 c1 c2 : Value} (h : w.heap[b]? = some (.cells #[c0, c1, c2] t f)) : w.cell? ⟨b, 0, none⟩ = some c0 ∧ w.cell? ⟨b, 1, none⟩ = some c1 ∧ w.cell? ⟨b, 2, none⟩ = some c2 :=
  ⟨cell_of_row _ _ _ _ _ _ h, cell_of_row _ _ _ _ _ _ h, cell_of_row _ _ _ _ _ _ h⟩
theorem new_befs (w : World) (k : Int) (g : Bool) (v k' : Int) (g' : Bool) (v' : Int) (t : TypeId) : CellsAt (w.alloc (.cells #[.int .i64 k, .bool g, .int .i64 v, .int .i64 k', .bool g', .int .i64 v'] t)) (some ⟨w.heap.size, 0, none⟩) (2 * 3) (bfcells [⟨k, g, v⟩, ⟨k', g', v'⟩]) := by
  refine ⟨rfl, fun _ => ⟨_, _, rfl, fun i hi => ?_⟩⟩
  rw [Nat.zero_add]
  have := cell_of_row (w.alloc (.cells #[.int .i64 k, .bool g, .int .i64 v, .int .i64 k', .bool g', .int .i64 v'] t)) _ i _ _ _ (heap_alloc_new w _)
  rw [this]
  simp [bfcells]
theorem Tryz.zeroPair (w : World) : (zeroValue 55).run Tryz.prog w = .ok (.agg #[.int .i64 0, .int .i64 0]) w := by kernel_rfl
/-- A look-up in the map of pairs. -/
theorem wpList_lookP {ops : Array Oper} {rest : List Oper} {o : Oper} {a : Act} {w : World} {Q : Exit → Act → World → Prop} (m x : Operand) (B N : Nat) (D : DataW Unit) (key t1 t2 : Int) (bb : Bool)
    (hop : o.op = Op.lookup 70 m x true) (hg : o.guard = none) (hm : a.eval m = .map (some B)) (hx : a.eval x = .int .i64 key) (hown : w.ownsMap Tryz.prog 2 plElem B N D) (h0 : 0 ≤ key) (h1 : key ≤ 99)
    (hb : Maps.has D (kk key) = bb) (hat : D.atKey (kk key) (prD ⟨0, 0⟩) = prD ⟨t1, t2⟩) (hK : wpList Tryz.prog ops Q rest (a.put o.dst (.tuple #[.agg #[.int .i64 t1, .int .i64 t2], .bool bb])) w) : wpList Tryz.prog ops Q (o :: rest) a w := by
  refine wpList_lookup_own_ok w hg m x 70 hop 2 55 Tryz.keyed Tryz.underlying70 plElem (Tryz.zeroPair w) (prD ⟨0, 0⟩) [] (plElem_mk 0 0) B N D hm hown _ (kk key) hx (kk_key h0 h1) ?_
  intro v ps hv
  rw [hat] at hv
  rw [plElem_inv hv, hb]
  exact hK
theorem MpP.no {ps : List Ch.Hold} {D : DataW Unit} (h : MpP ps D) {key : Int} (ht : Ch.thereP ps key = false) : Maps.has D (kk key) = false ∧ ∀ z, D.atKey (kk key) z = z := by
  have hh : Maps.has D (kk key) = false := by
    cases hb : Maps.has D (kk key)
    · rfl
    · obtain ⟨p, hp, he⟩ := h.only _ hb
      unfold Ch.thereP at ht
      rw [List.any_eq_false] at ht
      exact absurd (by simpa using (kk_inj he).symm) (ht p hp)
  exact ⟨hh, fun z => atKey_of_not_has hh z⟩
theorem MpP.yes {ps : List Ch.Hold} {D : DataW Unit} (h : MpP ps D) {key : Int} (ht : Ch.thereP ps key = true) : ∃ t, Maps.has D (kk key) = true ∧ (∀ z, D.atKey (kk key) z = prD ⟨t, key⟩) ∧ ∀ v, Ch.rightP ps key v = Ch.sameE ⟨t, key⟩ ⟨v, key⟩ := by
  unfold Ch.thereP at ht
  rw [List.any_eq_true] at ht
  obtain ⟨⟨t, m⟩, hp, he⟩ := ht
  have he : m = key := by simpa using he
  subst he
  obtain ⟨h1, h2⟩ := h.has _ hp
  refine ⟨t, h1, h2, fun v => ?_⟩
  unfold Ch.rightP
  cases hs : Ch.sameE ⟨t, m⟩ ⟨v, m⟩
  · rw [List.any_eq_false]
    intro q hq hc
    simp at hc
    have := Ch.key_one h.nd hq hp hc.1
    subst this
    simp [Ch.sameE] at hs
    exact hs hc.2
  · rw [List.any_eq_true]
    exact ⟨_, hp, by simpa [Ch.sameE] using hs⟩
theorem Ch.right_no {ps : List Ch.Hold} {key v : Int} (h : Ch.thereP ps key = false) : Ch.rightP ps key v = false := by
  unfold Ch.thereP at h
  unfold Ch.rightP
  rw [List.any_eq_false] at *
  intro p hp hc
  simp at hc
  exact h p hp (by simpa using hc.1)
theorem Ch.tf_code {ps : List Ch.Hold} {key c : Int} {old now : Ch.Bf} (h : Ch.ixFault ps = c) (hc : (c != 0) = true) : Ch.turnF ps key old now = c := by rw [Ch.turnF, h, if_pos hc]
theorem Ch.tf_bef {ps : List Ch.Hold} {key c : Int} {old now : Ch.Bf} (h : Ch.ixFault ps = 0) (hb : Ch.befFault [old, now] = c) (hc : (c != 0) = true) : Ch.turnF ps key old now = c := by rw [Ch.turnF, h, if_neg (by decide), hb, if_pos hc]
theorem Ch.tf_form {ps : List Ch.Hold} {key : Int} {old now : Ch.Bf} (h : Ch.ixFault ps = 0) (hb : Ch.befFault [old, now] = 0) (hk : (old.k != key || now.k != key) = true) : Ch.turnF ps key old now = 1 := by rw [Ch.turnF, h, if_neg (by decide), hb, if_neg (by decide), if_pos hk]
theorem Ch.tf_last {ps : List Ch.Hold} {key : Int} {old now : Ch.Bf} (h : Ch.ixFault ps = 0) (hb : Ch.befFault [old, now] = 0) (hk : (old.k != key || now.k != key) = false) : Ch.turnF ps key old now = if old.h && !Ch.rightP ps key old.v then 4 else if !old.h && Ch.thereP ps key then 7 else 0 := by
  rw [Ch.turnF, h, if_neg (by decide), hb, if_neg (by decide), if_neg (by rw [hk]; exact Bool.false_ne_true)]
theorem Ch.bef_two {old now : Ch.Bf} (h : Ch.befFault [old, now] = 0) : Ch.inB old.k 0 99 = true ∧ Ch.inB old.v 0 9999 = true ∧ Ch.inB now.k 0 99 = true ∧ Ch.inB now.v 0 9999 = true := by
  have h1 := Ch.bef_ok (bs := [old, now]) (by unfold Ch.befFault at h; rw [if_neg (by simp)] at h; exact h)
  have f : ∀ b : Ch.Bf, b.fault = 0 → Ch.inB b.k 0 99 = true ∧ Ch.inB b.v 0 9999 = true := fun b hb => by
    unfold Ch.Bf.fault at hb
    by_cases h3 : (!Ch.inB b.k 0 99 || !Ch.inB b.v 0 9999) = true
    · rw [if_pos h3] at hb; cases hb
    · simp only [Bool.or_eq_true, Bool.not_eq_true', not_or, Bool.not_eq_false] at h3; exact h3
  exact ⟨(f old (h1 old (by simp))).1, (f old (h1 old (by simp))).2, (f now (h1 now (by simp))).1, (f now (h1 now (by simp))).2⟩

set_option maxHeartbeats 1000000 in
theorem pairOf_any (k : Int) (g : Bool) (v : Int) (W : World) : Calls Tryz.prog 32 #[.agg #[.int .i64 k, .bool g, .int .i64 v]] W fun e w' => e = .returned (.agg #[.int .i64 v, .int .i64 k]) ∧ Below W.heap.size W w' := by
  go_enter Tryz.func32, Tryz.ntmps32
  go_wp2
  exact bodyPost_ret (v := .agg #[.int .i64 v, .int .i64 k]) (by simp [results, Tryz.results32, go_sem]) rfl
    ⟨rfl, ((Below.refl _ _).alloc (Nat.le_refl _) _).alloc (by simp) _⟩

set_option linter.unusedSimpArgs false in
set_option maxRecDepth 20000 in
set_option maxHeartbeats 4000000 in
theorem turnFault_any (a : Option Addr) (n cap : Nat) (key ok : Int) (oh : Bool) (ov nk : Int) (nh : Bool) (nv : Int) (ps : List Ch.Hold) (w : World) (h : CellsAt w a (n * 2) (hcells ps)) (hn : n ≤ 1048576) :
    Calls Tryz.prog 30 #[.slice a n cap, .int .i64 key, .agg #[.int .i64 ok, .bool oh, .int .i64 ov], .agg #[.int .i64 nk, .bool nh, .int .i64 nv]] w fun e w' => e = .returned (.int .i64 (Ch.turnF ps key ⟨ok, oh, ov⟩ ⟨nk, nh, nv⟩)) ∧ Below w.heap.size w w' := by
  have IX := fun W hW => implIx_any a n cap ps W hW hn
  have HL := h.hlen
  have kA : Below w.heap.size w ((w.alloc (.cells #[.int .i64 ok, .bool oh, .int .i64 ov] 36)).alloc (.cells #[.int .i64 nk, .bool nh, .int .i64 nv] 36)) := ((Below.refl _ _).alloc (Nat.le_refl _) _).alloc (by simp) _
  have hO : ((w.alloc (.cells #[.int .i64 ok, .bool oh, .int .i64 ov] 36)).alloc (.cells #[.int .i64 nk, .bool nh, .int .i64 nv] 36)).heap[w.heap.size]? = some (.cells #[.int .i64 ok, .bool oh, .int .i64 ov] 36 (0, 0)) := block_below ((Below.refl _ _).alloc (Nat.le_refl _) _) (heap_alloc_new w _)
  have hN := heap_alloc_new (w.alloc (.cells #[.int .i64 ok, .bool oh, .int .i64 ov] 36)) (.cells #[.int .i64 nk, .bool nh, .int .i64 nv] 36)
  rw [show (w.alloc (.cells #[.int .i64 ok, .bool oh, .int .i64 ov] 36)).heap.size = w.heap.size + 1 by simp] at hN
  obtain ⟨c, HC⟩ : ∃ c, Hid (Ch.ixFault ps = c) := ⟨_, rfl⟩
  rw [HC.out] at IX
  by_cases h0 : c = 0
  rotate_left
  · have hc : (c != 0) = true := by simpa using h0
    have HT := hid (Ch.tf_code (key := key) (old := ⟨ok, oh, ov⟩) (now := ⟨nk, nh, nv⟩) HC.out hc)
    clear HC h0
    go_enter Tryz.func30, Tryz.ntmps30
    go_wp2_with fail
    refine (IX _ (h.below kA)).mono ?_
    rintro e w1 ⟨rfl, b1⟩
    have hO1 := block_below b1 hO
    have hN1 := block_below b1 hN
    have B1 := kA.trans (b1.mono (by simp; omega))
    go_wp2
    go_ret
    exact ⟨ret_int HT.out.symm, B1⟩
  subst h0
  obtain ⟨cb, HB⟩ : ∃ cb, Hid (Ch.befFault [⟨ok, oh, ov⟩, ⟨nk, nh, nv⟩] = cb) := ⟨_, rfl⟩
  by_cases hb0 : cb = 0
  rotate_left
  · have hc : (cb != 0) = true := by simpa using hb0
    have HT := hid (Ch.tf_bef (key := key) HC.out HB.out hc)
    clear HC hb0
    go_enter Tryz.func30, Tryz.ntmps30
    go_wp2_with fail
    refine (IX _ (h.below kA)).mono ?_
    rintro e w1 ⟨rfl, b1⟩
    have hO1 := block_below b1 hO
    have hN1 := block_below b1 hN
    have B1 := kA.trans (b1.mono (by simp; omega))
    have ll := (Array.getElem?_eq_some_iff.1 hN1).1
    obtain ⟨x0, x1, x2⟩ := row3' hO1
    obtain ⟨u0, u1, u2⟩ := row3' hN1
    have hT := new_befs w1 ok oh ov nk nh nv 36
    have kT : Below w1.heap.size w1 (w1.alloc (.cells #[.int .i64 ok, .bool oh, .int .i64 ov, .int .i64 nk, .bool nh, .int .i64 nv] 36)) := (Below.refl _ _).alloc (Nat.le_refl _) _
    go_wp2_with fail
    refine (implBefores_any _ 2 2 [⟨ok, oh, ov⟩, ⟨nk, nh, nv⟩] _ hT (by omega)).mono ?_
    rintro e w2 ⟨rfl, b2⟩
    rw [HB.out]
    have kT2 := kT.trans (b2.mono (by simp))
    have hO2 := block_below kT2 hO1
    have hN2 := block_below kT2 hN1
    have B2 := B1.trans (kT2.mono B1.size)
    clear hO1 hN1 x0 x1 x2 u0 u1 u2 hT kT b2 kT2 b1
    go_wp2
    go_ret
    exact ⟨ret_int HT.out.symm, B2⟩
  subst hb0
  have HR := hid (Ch.bef_two HB.out)
  have HX := hid (Ch.ix_good HC.out)
  by_cases hk1 : ok = key
  rotate_left
  · have e1 : (ok != key) = true := by simpa using hk1
    have HT := hid (Ch.tf_form (key := key) HC.out HB.out (by simp only; rw [e1]; rfl))
    clear HC hk1 HR HX
    go_enter Tryz.func30, Tryz.ntmps30
    go_wp2_with fail
    refine (IX _ (h.below kA)).mono ?_
    rintro e w1 ⟨rfl, b1⟩
    have hO1 := block_below b1 hO
    have hN1 := block_below b1 hN
    have B1 := kA.trans (b1.mono (by simp; omega))
    have ll := (Array.getElem?_eq_some_iff.1 hN1).1
    obtain ⟨x0, x1, x2⟩ := row3' hO1
    obtain ⟨u0, u1, u2⟩ := row3' hN1
    have hT := new_befs w1 ok oh ov nk nh nv 36
    have kT : Below w1.heap.size w1 (w1.alloc (.cells #[.int .i64 ok, .bool oh, .int .i64 ov, .int .i64 nk, .bool nh, .int .i64 nv] 36)) := (Below.refl _ _).alloc (Nat.le_refl _) _
    go_wp2_with fail
    refine (implBefores_any _ 2 2 [⟨ok, oh, ov⟩, ⟨nk, nh, nv⟩] _ hT (by omega)).mono ?_
    rintro e w2 ⟨rfl, b2⟩
    rw [HB.out]
    have kT2 := kT.trans (b2.mono (by simp))
    have hO2 := block_below kT2 hO1
    have hN2 := block_below kT2 hN1
    have B2 := B1.trans (kT2.mono B1.size)
    clear hO1 hN1 x0 x1 x2 u0 u1 u2 hT kT b2 kT2 b1
    obtain ⟨x0, x1, x2⟩ := row3' hO2
    go_wp2
    go_ret
    exact ⟨ret_int HT.out.symm, B2⟩
  subst hk1
  have e1 : (ok != ok) = false := by simp
  by_cases hk2 : nk = ok
  rotate_left
  · have e2 : (nk != ok) = true := by simpa using hk2
    have HT := hid (Ch.tf_form (key := ok) HC.out HB.out (by simp only; rw [e1, e2]; rfl))
    clear HC hk2 HR HX
    go_enter Tryz.func30, Tryz.ntmps30
    go_wp2_with fail
    refine (IX _ (h.below kA)).mono ?_
    rintro e w1 ⟨rfl, b1⟩
    have hO1 := block_below b1 hO
    have hN1 := block_below b1 hN
    have B1 := kA.trans (b1.mono (by simp; omega))
    have ll := (Array.getElem?_eq_some_iff.1 hN1).1
    obtain ⟨x0, x1, x2⟩ := row3' hO1
    obtain ⟨u0, u1, u2⟩ := row3' hN1
    have hT := new_befs w1 ok oh ov nk nh nv 36
    have kT : Below w1.heap.size w1 (w1.alloc (.cells #[.int .i64 ok, .bool oh, .int .i64 ov, .int .i64 nk, .bool nh, .int .i64 nv] 36)) := (Below.refl _ _).alloc (Nat.le_refl _) _
    go_wp2_with fail
    refine (implBefores_any _ 2 2 [⟨ok, oh, ov⟩, ⟨nk, nh, nv⟩] _ hT (by omega)).mono ?_
    rintro e w2 ⟨rfl, b2⟩
    rw [HB.out]
    have kT2 := kT.trans (b2.mono (by simp))
    have hO2 := block_below kT2 hO1
    have hN2 := block_below kT2 hN1
    have B2 := B1.trans (kT2.mono B1.size)
    clear hO1 hN1 x0 x1 x2 u0 u1 u2 hT kT b2 kT2 b1
    obtain ⟨x0, x1, x2⟩ := row3' hO2
    obtain ⟨u0, u1, u2⟩ := row3' hN2
    go_wp2
    go_ret
    exact ⟨ret_int HT.out.symm, B2⟩
  have e2 : (nk != ok) = false := by simpa using hk2
  have HT := hid (Ch.tf_last (key := ok) HC.out HB.out (by simp only; rw [e1, e2]; rfl))
  simp only at HT
  have hkey := inB_key HR.out.1
  have BK := fun W hW => byKey_any a n cap ps W hW (by have := HX.out.len; have := HL.out; omega) HX.out.key
  have HNL : Hid (n = ps.length) := HL
  clear HC HR hk2
  go_enter Tryz.func30, Tryz.ntmps30
  go_wp2_with fail
  refine (IX _ (h.below kA)).mono ?_
  rintro e w1 ⟨rfl, b1⟩
  have hO1 := block_below b1 hO
  have hN1 := block_below b1 hN
  have B1 := kA.trans (b1.mono (by simp; omega))
  have ll := (Array.getElem?_eq_some_iff.1 hN1).1
  obtain ⟨x0, x1, x2⟩ := row3' hO1
  obtain ⟨u0, u1, u2⟩ := row3' hN1
  have hT := new_befs w1 ok oh ov nk nh nv 36
  have kT : Below w1.heap.size w1 (w1.alloc (.cells #[.int .i64 ok, .bool oh, .int .i64 ov, .int .i64 nk, .bool nh, .int .i64 nv] 36)) := (Below.refl _ _).alloc (Nat.le_refl _) _
  go_wp2_with fail
  refine (implBefores_any _ 2 2 [⟨ok, oh, ov⟩, ⟨nk, nh, nv⟩] _ hT (by omega)).mono ?_
  rintro e w2 ⟨rfl, b2⟩
  rw [HB.out]
  have kT2 := kT.trans (b2.mono (by simp))
  have hO2 := block_below kT2 hO1
  have hN2 := block_below kT2 hN1
  have B2 := B1.trans (kT2.mono B1.size)
  clear hO1 hN1 x0 x1 x2 u0 u1 u2 hT kT b2 kT2 b1
  obtain ⟨x0, x1, x2⟩ := row3' hO2
  obtain ⟨u0, u1, u2⟩ := row3' hN2
  go_wp2_with fail
  refine (BK _ (h.below B2)).mono ?_
  rintro e w2' ⟨D, rfl, own, hP, b3⟩
  have HMP := hid (MpK.all (by rw [← HNL.out]; exact hP) HX.out.nd)
  have hO3 := block_below b3 hO2
  have B3 := B2.trans (b3.mono B2.size)
  clear x0 x1 x2 u0 u1 u2 hP hO2 hN2
  cases ht : Ch.thereP ps ok
  · obtain ⟨hh, ha⟩ := HMP.out.no ht
    have hat := ha (prD ⟨0, 0⟩)
    rw [Ch.right_no ht, ht] at HT
    clear ha HMP ht
    go_wp2_with (at_lookup; go_must (refine wpList_lookP _ _ w2.heap.size n D ok 0 0 false rfl rfl rfl rfl own hkey.1 hkey.2 hh hat ?_))
    generalize w2' = w2 at *
    have kF : Below w2.heap.size w2 (w2.alloc (.cells #[.int .i64 0, .int .i64 0] 55)) := (Below.refl _ _).alloc (Nat.le_refl _) _
    obtain ⟨x0, x1, x2⟩ := row3' (block_below kF hO3)
    have bE := B3.trans (kF.mono B3.size)
    cases oh
    · simp only [Bool.false_and, Bool.not_false, Bool.true_and, Bool.false_eq_true, if_false] at HT
      refine wp_region_noPanic ?_
      refine wp_region_held_drew (S := fun W' => W'.cell? ⟨w.heap.size, 0, none⟩ = some (.int .i64 ok) ∧ W'.cell? ⟨w.heap.size, 1, none⟩ = some (.bool false) ∧ W'.cell? ⟨w.heap.size, 2, none⟩ = some (.int .i64 ov) ∧ Below w.heap.size w W') (by kernel_rfl) (⟨x0, x1, x2, bE.drew⟩) (fun hH => ?_)
      refine hTake (i := 0) (v := ?_) rfl (by kernel_rfl) (by kernel_rfl) (by kernel_rfl) (by rfl) ?_ hH ?_
      rotate_left
      · intro W hW; (try dsimp only at hW); go_simp <;> with_reducible rfl
      simp only [Act.put, List.setIfInBounds_toArray, List.set_cons_zero, List.set_cons_succ]
      refine hTake (i := 1) (v := ?_) rfl (by kernel_rfl) (by kernel_rfl) (by kernel_rfl) (by rfl) ?_ hH ?_
      rotate_left
      · intro W hW; (try dsimp only at hW); go_simp <;> with_reducible rfl
      simp only [Act.put, List.setIfInBounds_toArray, List.set_cons_zero, List.set_cons_succ]
      refine hTake (i := 2) (v := ?_) rfl (by kernel_rfl) (by kernel_rfl) (by kernel_rfl) (by rfl) ?_ hH ?_
      rotate_left
      · intro W hW; (try dsimp only at hW); go_simp <;> with_reducible rfl
      simp only [Act.put, List.setIfInBounds_toArray, List.set_cons_zero, List.set_cons_succ]
      refine hSkip (i := 3) rfl (by kernel_rfl) (by kernel_rfl) (by kernel_rfl) (by rfl) hH ?_
      simp only [Act.put, List.setIfInBounds_toArray, List.set_cons_zero, List.set_cons_succ]
      refine hSkip (i := 4) rfl (by kernel_rfl) (by kernel_rfl) (by kernel_rfl) (by rfl) hH ?_
      simp only [Act.put, List.setIfInBounds_toArray, List.set_cons_zero, List.set_cons_succ]
      refine hSkip (i := 5) rfl (by kernel_rfl) (by kernel_rfl) (by kernel_rfl) (by rfl) hH ?_
      simp only [Act.put, List.setIfInBounds_toArray, List.set_cons_zero, List.set_cons_succ]
      refine hSkip (i := 6) rfl (by kernel_rfl) (by kernel_rfl) (by kernel_rfl) (by rfl) hH ?_
      simp only [Act.put, List.setIfInBounds_toArray, List.set_cons_zero, List.set_cons_succ]
      refine hSkip (i := 7) rfl (by kernel_rfl) (by kernel_rfl) (by kernel_rfl) (by rfl) hH ?_
      simp only [Act.put, List.setIfInBounds_toArray, List.set_cons_zero, List.set_cons_succ]
      refine hSkip (i := 8) rfl (by kernel_rfl) (by kernel_rfl) (by kernel_rfl) (by rfl) hH ?_
      simp only [Act.put, List.setIfInBounds_toArray, List.set_cons_zero, List.set_cons_succ]
      refine hSkip (i := 9) rfl (by kernel_rfl) (by kernel_rfl) (by kernel_rfl) (by rfl) hH ?_
      simp only [Act.put, List.setIfInBounds_toArray, List.set_cons_zero, List.set_cons_succ]
      refine hSkip (i := 10) rfl (by kernel_rfl) (by kernel_rfl) (by kernel_rfl) (by rfl) hH ?_
      simp only [Act.put, List.setIfInBounds_toArray, List.set_cons_zero, List.set_cons_succ]
      refine hTake (i := 11) (v := ?_) rfl (by kernel_rfl) (by kernel_rfl) (by kernel_rfl) (by rfl) ?_ hH ?_
      rotate_left
      · intro W hW; (try dsimp only at hW); go_simp <;> with_reducible rfl
      simp only [Act.put, List.setIfInBounds_toArray, List.set_cons_zero, List.set_cons_succ]
      refine wpAnyH_done (by kernel_rfl) ?_ _
      refine NoPanic.normal ?_
      obtain ⟨v0, v1, v2, bE2⟩ := hH
      clear x0 x1 x2
      go_wp2
      go_ret
      exact ⟨ret_int HT.out.symm, bE2⟩
    · simp only [Bool.true_and, Bool.not_false, if_true] at HT
      refine wp_region_noPanic ?_
      refine wp_region_held_drew (S := fun W' => W'.cell? ⟨w.heap.size, 0, none⟩ = some (.int .i64 ok) ∧ W'.cell? ⟨w.heap.size, 1, none⟩ = some (.bool true) ∧ W'.cell? ⟨w.heap.size, 2, none⟩ = some (.int .i64 ov) ∧ Below w.heap.size w W') (by kernel_rfl) (⟨x0, x1, x2, bE.drew⟩) (fun hH => ?_)
      refine hTake (i := 0) (v := ?_) rfl (by kernel_rfl) (by kernel_rfl) (by kernel_rfl) (by rfl) ?_ hH ?_
      rotate_left
      · intro W hW; (try dsimp only at hW); go_simp <;> with_reducible rfl
      simp only [Act.put, List.setIfInBounds_toArray, List.set_cons_zero, List.set_cons_succ]
      refine hTake (i := 1) (v := ?_) rfl (by kernel_rfl) (by kernel_rfl) (by kernel_rfl) (by rfl) ?_ hH ?_
      rotate_left
      · intro W hW; (try dsimp only at hW); go_simp <;> with_reducible rfl
      simp only [Act.put, List.setIfInBounds_toArray, List.set_cons_zero, List.set_cons_succ]
      refine hTake (i := 2) (v := ?_) rfl (by kernel_rfl) (by kernel_rfl) (by kernel_rfl) (by rfl) ?_ hH ?_
      rotate_left
      · intro W hW; (try dsimp only at hW); go_simp <;> with_reducible rfl
      simp only [Act.put, List.setIfInBounds_toArray, List.set_cons_zero, List.set_cons_succ]
      refine hTake (i := 3) (v := ?_) rfl (by kernel_rfl) (by kernel_rfl) (by kernel_rfl) (by rfl) ?_ hH ?_
      rotate_left
      · intro W hW; (try dsimp only at hW); go_simp <;> with_reducible rfl
      simp only [Act.put, List.setIfInBounds_toArray, List.set_cons_zero, List.set_cons_succ]
      refine hTake (i := 4) (v := ?_) rfl (by kernel_rfl) (by kernel_rfl) (by kernel_rfl) (by rfl) ?_ hH ?_
      rotate_left
      · intro W hW; (try dsimp only at hW); go_simp <;> with_reducible rfl
      simp only [Act.put, List.setIfInBounds_toArray, List.set_cons_zero, List.set_cons_succ]
      refine hTake (i := 5) (v := ?_) rfl (by kernel_rfl) (by kernel_rfl) (by kernel_rfl) (by rfl) ?_ hH ?_
      rotate_left
      · intro W hW; (try dsimp only at hW); go_simp <;> with_reducible rfl
      simp only [Act.put, List.setIfInBounds_toArray, List.set_cons_zero, List.set_cons_succ]
      refine hSkip (i := 6) rfl (by kernel_rfl) (by kernel_rfl) (by kernel_rfl) (by rfl) hH ?_
      simp only [Act.put, List.setIfInBounds_toArray, List.set_cons_zero, List.set_cons_succ]
      refine hSkip (i := 7) rfl (by kernel_rfl) (by kernel_rfl) (by kernel_rfl) (by rfl) hH ?_
      simp only [Act.put, List.setIfInBounds_toArray, List.set_cons_zero, List.set_cons_succ]
      refine hSkip (i := 8) rfl (by kernel_rfl) (by kernel_rfl) (by kernel_rfl) (by rfl) hH ?_
      simp only [Act.put, List.setIfInBounds_toArray, List.set_cons_zero, List.set_cons_succ]
      refine hSkip (i := 9) rfl (by kernel_rfl) (by kernel_rfl) (by kernel_rfl) (by rfl) hH ?_
      simp only [Act.put, List.setIfInBounds_toArray, List.set_cons_zero, List.set_cons_succ]
      refine hTake (i := 10) (v := ?_) rfl (by kernel_rfl) (by kernel_rfl) (by kernel_rfl) (by rfl) ?_ hH ?_
      rotate_left
      · intro W hW; (try dsimp only at hW); go_simp <;> with_reducible rfl
      simp only [Act.put, List.setIfInBounds_toArray, List.set_cons_zero, List.set_cons_succ]
      refine hTake (i := 11) (v := ?_) rfl (by kernel_rfl) (by kernel_rfl) (by kernel_rfl) (by rfl) ?_ hH ?_
      rotate_left
      · intro W hW; (try dsimp only at hW); go_simp <;> with_reducible rfl
      simp only [Act.put, List.setIfInBounds_toArray, List.set_cons_zero, List.set_cons_succ]
      refine wpAnyH_done (by kernel_rfl) ?_ _
      refine NoPanic.normal ?_
      obtain ⟨v0, v1, v2, bE2⟩ := hH
      clear x0 x1 x2
      go_wp2
      go_ret
      exact ⟨ret_int HT.out.symm, bE2⟩
  · obtain ⟨ft, hh, ha, hr⟩ := HMP.out.yes ht
    have hat := ha (prD ⟨0, 0⟩)
    have hnq := fun W => neqPair ft ok ov ok W
    rw [hr ov, ht] at HT
    clear ha HMP ht hr
    go_wp2_with (at_lookup; go_must (refine wpList_lookP _ _ w2.heap.size n D ok ft ok true rfl rfl rfl rfl own hkey.1 hkey.2 hh hat ?_))
    generalize w2' = w2 at *
    have kF : Below w2.heap.size w2 (w2.alloc (.cells #[.int .i64 ft, .int .i64 ok] 55)) := (Below.refl _ _).alloc (Nat.le_refl _) _
    obtain ⟨x0, x1, x2⟩ := row3' (block_below kF hO3)
    obtain ⟨y0, y1, _, _⟩ := row2 (heap_alloc_new w2 (.cells #[.int .i64 ft, .int .i64 ok] 55))
    have bE := B3.trans (kF.mono B3.size)
    cases oh
    · simp only [Bool.false_and, Bool.not_false, Bool.true_and, Bool.false_eq_true, if_false, if_true] at HT
      refine wp_region_noPanic ?_
      refine wp_region_held_drew (S := fun W' => W'.cell? ⟨w.heap.size, 0, none⟩ = some (.int .i64 ok) ∧ W'.cell? ⟨w.heap.size, 1, none⟩ = some (.bool false) ∧ W'.cell? ⟨w.heap.size, 2, none⟩ = some (.int .i64 ov) ∧ Below w.heap.size w W') (by kernel_rfl) (⟨x0, x1, x2, bE.drew⟩) (fun hH => ?_)
      refine hTake (i := 0) (v := ?_) rfl (by kernel_rfl) (by kernel_rfl) (by kernel_rfl) (by rfl) ?_ hH ?_
      rotate_left
      · intro W hW; (try dsimp only at hW); go_simp <;> with_reducible rfl
      simp only [Act.put, List.setIfInBounds_toArray, List.set_cons_zero, List.set_cons_succ]
      refine hTake (i := 1) (v := ?_) rfl (by kernel_rfl) (by kernel_rfl) (by kernel_rfl) (by rfl) ?_ hH ?_
      rotate_left
      · intro W hW; (try dsimp only at hW); go_simp <;> with_reducible rfl
      simp only [Act.put, List.setIfInBounds_toArray, List.set_cons_zero, List.set_cons_succ]
      refine hTake (i := 2) (v := ?_) rfl (by kernel_rfl) (by kernel_rfl) (by kernel_rfl) (by rfl) ?_ hH ?_
      rotate_left
      · intro W hW; (try dsimp only at hW); go_simp <;> with_reducible rfl
      simp only [Act.put, List.setIfInBounds_toArray, List.set_cons_zero, List.set_cons_succ]
      refine hSkip (i := 3) rfl (by kernel_rfl) (by kernel_rfl) (by kernel_rfl) (by rfl) hH ?_
      simp only [Act.put, List.setIfInBounds_toArray, List.set_cons_zero, List.set_cons_succ]
      refine hSkip (i := 4) rfl (by kernel_rfl) (by kernel_rfl) (by kernel_rfl) (by rfl) hH ?_
      simp only [Act.put, List.setIfInBounds_toArray, List.set_cons_zero, List.set_cons_succ]
      refine hSkip (i := 5) rfl (by kernel_rfl) (by kernel_rfl) (by kernel_rfl) (by rfl) hH ?_
      simp only [Act.put, List.setIfInBounds_toArray, List.set_cons_zero, List.set_cons_succ]
      refine hSkip (i := 6) rfl (by kernel_rfl) (by kernel_rfl) (by kernel_rfl) (by rfl) hH ?_
      simp only [Act.put, List.setIfInBounds_toArray, List.set_cons_zero, List.set_cons_succ]
      refine hSkip (i := 7) rfl (by kernel_rfl) (by kernel_rfl) (by kernel_rfl) (by rfl) hH ?_
      simp only [Act.put, List.setIfInBounds_toArray, List.set_cons_zero, List.set_cons_succ]
      refine hSkip (i := 8) rfl (by kernel_rfl) (by kernel_rfl) (by kernel_rfl) (by rfl) hH ?_
      simp only [Act.put, List.setIfInBounds_toArray, List.set_cons_zero, List.set_cons_succ]
      refine hSkip (i := 9) rfl (by kernel_rfl) (by kernel_rfl) (by kernel_rfl) (by rfl) hH ?_
      simp only [Act.put, List.setIfInBounds_toArray, List.set_cons_zero, List.set_cons_succ]
      refine hSkip (i := 10) rfl (by kernel_rfl) (by kernel_rfl) (by kernel_rfl) (by rfl) hH ?_
      simp only [Act.put, List.setIfInBounds_toArray, List.set_cons_zero, List.set_cons_succ]
      refine hTake (i := 11) (v := ?_) rfl (by kernel_rfl) (by kernel_rfl) (by kernel_rfl) (by rfl) ?_ hH ?_
      rotate_left
      · intro W hW; (try dsimp only at hW); go_simp <;> with_reducible rfl
      simp only [Act.put, List.setIfInBounds_toArray, List.set_cons_zero, List.set_cons_succ]
      refine wpAnyH_done (by kernel_rfl) ?_ _
      refine NoPanic.normal ?_
      obtain ⟨v0, v1, v2, bE2⟩ := hH
      clear x0 x1 x2
      go_wp2
      go_ret
      exact ⟨ret_int HT.out.symm, bE2⟩
    · have PO := fun W => pairOf_any ok true ov W
      cases hse : Ch.sameE ⟨ft, ok⟩ ⟨ov, ok⟩
      · rw [hse] at HT hnq
        simp only [Bool.not_false, Bool.true_and, if_true] at HT hnq
        refine wp_region_noPanic ?_
        refine wp_region_held_drew (S := fun W' => W'.cell? ⟨w.heap.size, 0, none⟩ = some (.int .i64 ok) ∧ W'.cell? ⟨w.heap.size, 1, none⟩ = some (.bool true) ∧ W'.cell? ⟨w.heap.size, 2, none⟩ = some (.int .i64 ov) ∧ W'.cell? ⟨w2.heap.size, 0, none⟩ = some (.int .i64 ft) ∧ W'.cell? ⟨w2.heap.size, 1, none⟩ = some (.int .i64 ok) ∧ Below w.heap.size w W') (by kernel_rfl) (⟨x0, x1, x2, y0, y1, bE.drew⟩) (fun hH => ?_)
        refine hTake (i := 0) (v := ?_) rfl (by kernel_rfl) (by kernel_rfl) (by kernel_rfl) (by rfl) ?_ hH ?_
        rotate_left
        · intro W hW; (try dsimp only at hW); go_simp <;> with_reducible rfl
        simp only [Act.put, List.setIfInBounds_toArray, List.set_cons_zero, List.set_cons_succ]
        refine hTake (i := 1) (v := ?_) rfl (by kernel_rfl) (by kernel_rfl) (by kernel_rfl) (by rfl) ?_ hH ?_
        rotate_left
        · intro W hW; (try dsimp only at hW); go_simp <;> with_reducible rfl
        simp only [Act.put, List.setIfInBounds_toArray, List.set_cons_zero, List.set_cons_succ]
        refine hTake (i := 2) (v := ?_) rfl (by kernel_rfl) (by kernel_rfl) (by kernel_rfl) (by rfl) ?_ hH ?_
        rotate_left
        · intro W hW; (try dsimp only at hW); go_simp <;> with_reducible rfl
        simp only [Act.put, List.setIfInBounds_toArray, List.set_cons_zero, List.set_cons_succ]
        refine hTake (i := 3) (v := ?_) rfl (by kernel_rfl) (by kernel_rfl) (by kernel_rfl) (by rfl) ?_ hH ?_
        rotate_left
        · intro W hW; (try dsimp only at hW); go_simp <;> with_reducible rfl
        simp only [Act.put, List.setIfInBounds_toArray, List.set_cons_zero, List.set_cons_succ]
        refine hTake (i := 4) (v := ?_) rfl (by kernel_rfl) (by kernel_rfl) (by kernel_rfl) (by rfl) ?_ hH ?_
        rotate_left
        · intro W hW; (try dsimp only at hW); go_simp <;> with_reducible rfl
        simp only [Act.put, List.setIfInBounds_toArray, List.set_cons_zero, List.set_cons_succ]
        refine hTake (i := 5) (v := ?_) rfl (by kernel_rfl) (by kernel_rfl) (by kernel_rfl) (by rfl) ?_ hH ?_
        rotate_left
        · intro W hW; (try dsimp only at hW); go_simp <;> with_reducible rfl
        simp only [Act.put, List.setIfInBounds_toArray, List.set_cons_zero, List.set_cons_succ]
        refine hTake (i := 6) (v := ?_) rfl (by kernel_rfl) (by kernel_rfl) (by kernel_rfl) (by rfl) ?_ hH ?_
        rotate_left
        · intro W hW; (try dsimp only at hW); go_simp <;> with_reducible rfl
        simp only [Act.put, List.setIfInBounds_toArray, List.set_cons_zero, List.set_cons_succ]
        refine hTake (i := 7) (v := ?_) rfl (by kernel_rfl) (by kernel_rfl) (by kernel_rfl) (by rfl) ?_ hH ?_
        rotate_left
        · intro W hW; (try dsimp only at hW); go_simp <;> with_reducible rfl
        simp only [Act.put, List.setIfInBounds_toArray, List.set_cons_zero, List.set_cons_succ]
        refine wpAnyH_ready (rs := [8]) (by kernel_rfl) (by simp) ?_
        refine AllReadyH.cons rfl (fun K hK => ?_) AllReadyH.nil
        go_simp
        refine (PO _).mono ?_
        rintro e w9 ⟨rfl, b9⟩
        refine hK.out _ _ ?_ (fun hH => ?_)
        · exact ⟨keep_cell b9 hH.1, keep_cell b9 hH.2.1, keep_cell b9 hH.2.2.1, keep_cell b9 hH.2.2.2.1, keep_cell b9 hH.2.2.2.2.1, hH.2.2.2.2.2.trans (b9.mono hH.2.2.2.2.2.size)⟩
        clear hK K
        refine hTake (i := 9) (v := ?_) rfl (by kernel_rfl) (by kernel_rfl) (by kernel_rfl) (by rfl) ?_ hH ?_
        rotate_left
        · intro W hW; (try dsimp only at hW); go_simp <;> with_reducible rfl
        simp only [Act.put, List.setIfInBounds_toArray, List.set_cons_zero, List.set_cons_succ]
        refine hTake (i := 10) (v := ?_) rfl (by kernel_rfl) (by kernel_rfl) (by kernel_rfl) (by rfl) ?_ hH ?_
        rotate_left
        · intro W hW; (try dsimp only at hW); go_simp <;> with_reducible rfl
        simp only [Act.put, List.setIfInBounds_toArray, List.set_cons_zero, List.set_cons_succ]
        refine hTake (i := 11) (v := ?_) rfl (by kernel_rfl) (by kernel_rfl) (by kernel_rfl) (by rfl) ?_ hH ?_
        rotate_left
        · intro W hW; (try dsimp only at hW); go_simp <;> with_reducible rfl
        simp only [Act.put, List.setIfInBounds_toArray, List.set_cons_zero, List.set_cons_succ]
        refine wpAnyH_done (by kernel_rfl) ?_ _
        refine NoPanic.normal ?_
        have v1 := hH.2.1
        have bE2 := hH.2.2.2.2.2
        clear x0 x1 x2 hH
        go_wp2
        go_ret
        exact ⟨ret_int HT.out.symm, bE2⟩
      · rw [hse] at HT hnq
        simp only [Bool.not_true, Bool.and_false, Bool.false_and, Bool.false_eq_true, if_false] at HT hnq
        refine wp_region_noPanic ?_
        refine wp_region_held_drew (S := fun W' => W'.cell? ⟨w.heap.size, 0, none⟩ = some (.int .i64 ok) ∧ W'.cell? ⟨w.heap.size, 1, none⟩ = some (.bool true) ∧ W'.cell? ⟨w.heap.size, 2, none⟩ = some (.int .i64 ov) ∧ W'.cell? ⟨w2.heap.size, 0, none⟩ = some (.int .i64 ft) ∧ W'.cell? ⟨w2.heap.size, 1, none⟩ = some (.int .i64 ok) ∧ Below w.heap.size w W') (by kernel_rfl) (⟨x0, x1, x2, y0, y1, bE.drew⟩) (fun hH => ?_)
        refine hTake (i := 0) (v := ?_) rfl (by kernel_rfl) (by kernel_rfl) (by kernel_rfl) (by rfl) ?_ hH ?_
        rotate_left
        · intro W hW; (try dsimp only at hW); go_simp <;> with_reducible rfl
        simp only [Act.put, List.setIfInBounds_toArray, List.set_cons_zero, List.set_cons_succ]
        refine hTake (i := 1) (v := ?_) rfl (by kernel_rfl) (by kernel_rfl) (by kernel_rfl) (by rfl) ?_ hH ?_
        rotate_left
        · intro W hW; (try dsimp only at hW); go_simp <;> with_reducible rfl
        simp only [Act.put, List.setIfInBounds_toArray, List.set_cons_zero, List.set_cons_succ]
        refine hTake (i := 2) (v := ?_) rfl (by kernel_rfl) (by kernel_rfl) (by kernel_rfl) (by rfl) ?_ hH ?_
        rotate_left
        · intro W hW; (try dsimp only at hW); go_simp <;> with_reducible rfl
        simp only [Act.put, List.setIfInBounds_toArray, List.set_cons_zero, List.set_cons_succ]
        refine hTake (i := 3) (v := ?_) rfl (by kernel_rfl) (by kernel_rfl) (by kernel_rfl) (by rfl) ?_ hH ?_
        rotate_left
        · intro W hW; (try dsimp only at hW); go_simp <;> with_reducible rfl
        simp only [Act.put, List.setIfInBounds_toArray, List.set_cons_zero, List.set_cons_succ]
        refine hTake (i := 4) (v := ?_) rfl (by kernel_rfl) (by kernel_rfl) (by kernel_rfl) (by rfl) ?_ hH ?_
        rotate_left
        · intro W hW; (try dsimp only at hW); go_simp <;> with_reducible rfl
        simp only [Act.put, List.setIfInBounds_toArray, List.set_cons_zero, List.set_cons_succ]
        refine hTake (i := 5) (v := ?_) rfl (by kernel_rfl) (by kernel_rfl) (by kernel_rfl) (by rfl) ?_ hH ?_
        rotate_left
        · intro W hW; (try dsimp only at hW); go_simp <;> with_reducible rfl
        simp only [Act.put, List.setIfInBounds_toArray, List.set_cons_zero, List.set_cons_succ]
        refine hTake (i := 6) (v := ?_) rfl (by kernel_rfl) (by kernel_rfl) (by kernel_rfl) (by rfl) ?_ hH ?_
        rotate_left
        · intro W hW; (try dsimp only at hW); go_simp <;> with_reducible rfl
        simp only [Act.put, List.setIfInBounds_toArray, List.set_cons_zero, List.set_cons_succ]
        refine hTake (i := 7) (v := ?_) rfl (by kernel_rfl) (by kernel_rfl) (by kernel_rfl) (by rfl) ?_ hH ?_
        rotate_left
        · intro W hW; (try dsimp only at hW); go_simp <;> with_reducible rfl
        simp only [Act.put, List.setIfInBounds_toArray, List.set_cons_zero, List.set_cons_succ]
        refine wpAnyH_ready (rs := [8]) (by kernel_rfl) (by simp) ?_
        refine AllReadyH.cons rfl (fun K hK => ?_) AllReadyH.nil
        go_simp
        refine (PO _).mono ?_
        rintro e w9 ⟨rfl, b9⟩
        refine hK.out _ _ ?_ (fun hH => ?_)
        · exact ⟨keep_cell b9 hH.1, keep_cell b9 hH.2.1, keep_cell b9 hH.2.2.1, keep_cell b9 hH.2.2.2.1, keep_cell b9 hH.2.2.2.2.1, hH.2.2.2.2.2.trans (b9.mono hH.2.2.2.2.2.size)⟩
        clear hK K
        refine hTake (i := 9) (v := ?_) rfl (by kernel_rfl) (by kernel_rfl) (by kernel_rfl) (by rfl) ?_ hH ?_
        rotate_left
        · intro W hW; (try dsimp only at hW); go_simp <;> with_reducible rfl
        simp only [Act.put, List.setIfInBounds_toArray, List.set_cons_zero, List.set_cons_succ]
        refine hTake (i := 10) (v := ?_) rfl (by kernel_rfl) (by kernel_rfl) (by kernel_rfl) (by rfl) ?_ hH ?_
        rotate_left
        · intro W hW; (try dsimp only at hW); go_simp <;> with_reducible rfl
        simp only [Act.put, List.setIfInBounds_toArray, List.set_cons_zero, List.set_cons_succ]
        refine hTake (i := 11) (v := ?_) rfl (by kernel_rfl) (by kernel_rfl) (by kernel_rfl) (by rfl) ?_ hH ?_
        rotate_left
        · intro W hW; (try dsimp only at hW); go_simp <;> with_reducible rfl
        simp only [Act.put, List.setIfInBounds_toArray, List.set_cons_zero, List.set_cons_succ]
        refine wpAnyH_done (by kernel_rfl) ?_ _
        refine NoPanic.normal ?_
        have v1 := hH.2.1
        have bE2 := hH.2.2.2.2.2
        clear x0 x1 x2 hH
        go_wp2
        go_ret
        exact ⟨ret_int HT.out.symm, bE2⟩
end Go.Proofs.YthfanfnbjldddaaGreat


/- TurnIndex of the program. -/
namespace Go.Proofs.YthfanfnbjldddaaGreat
open Go.RowKit Go.Maps

theorem Ch.tf_zero {ps : List Ch.Hold} {key : Int} {old now : Ch.Bf} (h : Ch.turnF ps key old now = 0) : Ch.ixFault ps = 0 ∧ Ch.befFault [old, now] = 0 ∧ old.k = key ∧ now.k = key := by
  unfold Ch.turnF at h
  by_cases h1 : (Ch.ixFault ps != 0) = true
  · rw [if_pos h1] at h; rw [h] at h1; cases h1
  rw [if_neg h1] at h
  by_cases h2 : (Ch.befFault [old, now] != 0) = true
  · rw [if_pos h2] at h; rw [h] at h2; cases h2
  rw [if_neg h2] at h
  by_cases h3 : (old.k != key || now.k != key) = true
  · rw [if_pos h3] at h; cases h
  simp only [Bool.or_eq_true, not_or] at h3
  exact ⟨by simpa using h1, by simpa using h2, by simpa using h3.1, by simpa using h3.2⟩
theorem Ch.sortE_id {l : List Ch.Hold} (h : Ch.SortE l) : Ch.sortE l = l := Ch.sort_same (Ch.sortE_sort l) h fun _ => Ch.sortE_mem
theorem Ch.filter_sort {l : List Ch.Hold} (h : Ch.SortE l) (p : Ch.Hold → Bool) : Ch.SortE (l.filter p) := List.Pairwise.filter _ h
theorem Ch.turn_no {ps : List Ch.Hold} {key : Int} {now : Ch.Bf} (h : Ch.SortE ps) (hh : now.h = false) : Ch.turnL ps key now = Ch.sortE (ps.filter fun p => p.m != key) := by
  unfold Ch.turnL
  rw [hh, Ch.sortE_id (Ch.filter_sort h _)]; rfl
theorem Ch.turn_yes {ps : List Ch.Hold} {key : Int} {now : Ch.Bf} (h : Ch.SortE ps) (hh : now.h = true) : Ch.turnL ps key now = Ch.sortE ((ps.filter fun p => p.m != key) ++ [⟨now.v, key⟩]) := by
  unfold Ch.turnL
  rw [hh, Ch.sortE_snoc, Ch.sortE_id (Ch.filter_sort h _)]; rfl

set_option linter.unusedSimpArgs false in
set_option maxRecDepth 20000 in
set_option maxHeartbeats 4000000 in
theorem implTurn_any (a : Option Addr) (n cap : Nat) (key ok : Int) (oh : Bool) (ov nk : Int) (nh : Bool) (nv : Int) (ps : List Ch.Hold) (w : World) (h : CellsAt w a (n * 2) (hcells ps)) (hn : n ≤ 1048576) :
    Calls Tryz.prog 10 #[.slice a n cap, .int .i64 key, .agg #[.int .i64 ok, .bool oh, .int .i64 ov], .agg #[.int .i64 nk, .bool nh, .int .i64 nv]] w fun e w' => ∃ a' m c', e = .returned (.agg #[.int .i64 (Ch.turnR ps key ⟨ok, oh, ov⟩ ⟨nk, nh, nv⟩).1, .slice a' m c']) ∧ m ≤ 1048576 ∧ w'.ownsRow w.heap.size 55 2 (.slice a' m c') m (hcells (Ch.turnR ps key ⟨ok, oh, ov⟩ ⟨nk, nh, nv⟩).2) ∧ Below w.heap.size w w' := by
  have IT := fun W hW => turnFault_any a n cap key ok oh ov nk nh nv ps W hW hn
  have HL := h.hlen
  have kA : Below w.heap.size w (((w.alloc (.cells #[.int .i64 ok, .bool oh, .int .i64 ov] 36)).alloc (.cells #[.int .i64 nk, .bool nh, .int .i64 nv] 36)).alloc (.cells #[.int .i64 0, .slice none 0 0] 29)) := (((Below.refl _ _).alloc (Nat.le_refl _) _).alloc (by simp) _).alloc (by simp; omega) _
  have k1 : Below (w.alloc (.cells #[.int .i64 ok, .bool oh, .int .i64 ov] 36)).heap.size (w.alloc (.cells #[.int .i64 ok, .bool oh, .int .i64 ov] 36)) (((w.alloc (.cells #[.int .i64 ok, .bool oh, .int .i64 ov] 36)).alloc (.cells #[.int .i64 nk, .bool nh, .int .i64 nv] 36)).alloc (.cells #[.int .i64 0, .slice none 0 0] 29)) := ((Below.refl _ _).alloc (Nat.le_refl _) _).alloc (by simp) _
  have hO := block_below k1 (heap_alloc_new w _)
  have k2 : Below ((w.alloc (.cells #[.int .i64 ok, .bool oh, .int .i64 ov] 36)).alloc (.cells #[.int .i64 nk, .bool nh, .int .i64 nv] 36)).heap.size ((w.alloc (.cells #[.int .i64 ok, .bool oh, .int .i64 ov] 36)).alloc (.cells #[.int .i64 nk, .bool nh, .int .i64 nv] 36)) (((w.alloc (.cells #[.int .i64 ok, .bool oh, .int .i64 ov] 36)).alloc (.cells #[.int .i64 nk, .bool nh, .int .i64 nv] 36)).alloc (.cells #[.int .i64 0, .slice none 0 0] 29)) := (Below.refl _ _).alloc (Nat.le_refl _) _
  have hN := block_below k2 (heap_alloc_new (w.alloc (.cells #[.int .i64 ok, .bool oh, .int .i64 ov] 36)) _)
  rw [show (w.alloc (.cells #[.int .i64 ok, .bool oh, .int .i64 ov] 36)).heap.size = w.heap.size + 1 by simp] at hN
  have hR := heap_alloc_new ((w.alloc (.cells #[.int .i64 ok, .bool oh, .int .i64 ov] 36)).alloc (.cells #[.int .i64 nk, .bool nh, .int .i64 nv] 36)) (.cells #[.int .i64 0, .slice none 0 0] 29)
  rw [show ((w.alloc (.cells #[.int .i64 ok, .bool oh, .int .i64 ov] 36)).alloc (.cells #[.int .i64 nk, .bool nh, .int .i64 nv] 36)).heap.size = w.heap.size + 2 by simp] at hR
  obtain ⟨x0, x1, x2⟩ := row3' hO
  obtain ⟨u0, u1, u2⟩ := row3' hN
  clear k1 k2
  obtain ⟨c, HC⟩ : ∃ c, Hid (Ch.turnF ps key ⟨ok, oh, ov⟩ ⟨nk, nh, nv⟩ = c) := ⟨_, rfl⟩
  rw [HC.out] at IT
  by_cases h0 : c = 0
  rotate_left
  · have hc : (c != 0) = true := by simpa using h0
    rw [Ch.turnR_code HC.out hc]
    clear HC h0
    go_enter Tryz.func10, Tryz.ntmps10
    go_wp2_with fail
    refine (IT _ (h.below kA)).mono ?_
    rintro e w1 ⟨rfl, b1⟩
    have hR1 := block_below b1 hR
    have B1 := kA.trans (b1.mono (by simp; omega))
    have lz := (Array.getElem?_eq_some_iff.1 hR1).1
    obtain ⟨y0, y1, f0, f1⟩ := row2 hR1
    clear x0 x1 x2 u0 u1 u2
    go_wp2
    exact bodyPost_ret (v := .agg #[.int .i64 c, .slice none 0 0]) (by simp [results, Tryz.results10, go_sem, y0, y1]) rfl ⟨none, 0, 0, rfl, by omega, World.ownsRow_nil _ _ _ _, (B1.setCell (p := ⟨w.heap.size + 2, 0, none⟩) (by show w.heap.size ≤ w.heap.size + 2; omega) _).setCell (p := ⟨w.heap.size + 2, 1, none⟩) (by show w.heap.size ≤ w.heap.size + 2; omega) _⟩
  subst h0
  rw [Ch.turnR_ok HC.out]
  obtain ⟨hix, hbf, e1, e2⟩ := Ch.tf_zero HC.out
  simp only at e1 e2
  subst e1
  subst e2
  have HX := hid (Ch.ix_good hix)
  have hkey := inB_key (Ch.bef_two hbf).1
  have hkk := kk_key hkey.1 hkey.2
  have BK := fun W hW => byKey_any a n cap ps W hW (by have := HX.out.len; have := HL.out; omega) HX.out.key
  have hn2 : n ≤ 240 := by have := HX.out.len; have := HL.out; omega
  have HY := hid (fun hh => Ch.turn_yes (key := nk) (now := ⟨nk, nh, nv⟩) HX.out.sort hh)
  have HNo := hid (fun hh => Ch.turn_no (key := nk) (now := ⟨nk, nh, nv⟩) HX.out.sort hh)
  simp only at HY HNo
  generalize Ch.turnL ps nk ⟨nk, nh, nv⟩ = res at *
  clear HC hix hbf
  go_enter Tryz.func10, Tryz.ntmps10
  go_wp2_with fail
  refine (IT _ (h.below kA)).mono ?_
  rintro e w1 ⟨rfl, b1⟩
  have hR1 := block_below b1 hR
  have hN1 := block_below b1 hN
  have B1 := kA.trans (b1.mono (by simp; omega))
  clear x0 x1 x2 u0 u1 u2 hO hN hR IT kA b1
  go_wp2_with fail
  refine (BK _ (h.below B1)).mono ?_
  rintro e w2 ⟨D, rfl, own, hP, b2⟩
  have HMP := hid ((MpK.all (by rw [← HL.out]; exact hP) HX.out.nd).del nk)
  have hR2 := block_below b2 hR1
  have hN2 := block_below b2 hN1
  have B2 := B1.trans (b2.mono B1.size)
  have lm := (Array.getElem?_eq_some_iff.1 hR1).1
  have ln := (Array.getElem?_eq_some_iff.1 hN1).1
  clear hP hR1 hN1 BK b2
  cases nh
  · go_wp2_with (at_delete; go_must (refine wpList_delete_own _ rfl _ _ 70 2 rfl 55 Tryz.keyed Tryz.underlying70 plElem w1.heap.size n D rfl own _ _ rfl hkk ?_; intro w3 own3 hturn3; have gr3 := hturn3.grown; have hR3 := block_grown gr3 hR2 (fun e => by have e := Option.some.inj e; omega); have hN3 := block_grown gr3 hN2 (fun e => by have e := Option.some.inj e; omega); have B3 := B2.grown gr3 B2.size (fun g hg => by cases hg; omega); obtain ⟨u0, u1, u2⟩ := row3' hN3; have lu := lt_of_cell u0))
    have hsz := own3.size_le
    have hz3 := B3.size
    go_wp2_with fail
    refine (sortedP_any w1.heap.size n (D.del (kk nk)) _ _ own3 HMP.out (by omega)).mono ?_
    rintro e w5 ⟨a5, m5, c5, rfl, hm5, o5, b5⟩
    have hR5 := block_below b5 hR3
    have B5 := B3.trans (b5.mono B3.size)
    have lz := (Array.getElem?_eq_some_iff.1 hR5).1
    have l3 := (Array.getElem?_eq_some_iff.1 hR3).1
    obtain ⟨y0, y1, f0, f1⟩ := row2 hR5
    go_wp2
    refine bodyPost_ret (v := .agg #[.int .i64 0, .slice a5 m5 c5]) (by simp [results, Tryz.results10, go_sem, y0, y1]) rfl ⟨a5, m5, c5, rfl, hm5, ?_, (B5.setCell (p := ⟨w.heap.size + 2, 0, none⟩) (by show w.heap.size ≤ w.heap.size + 2; omega) _).setCell (p := ⟨w.heap.size + 2, 1, none⟩) (by show w.heap.size ≤ w.heap.size + 2; omega) _⟩
    rw [HNo.out (by first | rfl | trivial)]
    refine owns_base (base := w3.heap.size) (ownsRow_setCell_below (ownsRow_setCell_below o5 ?_ _) ?_ _) hz3
    · show w.heap.size + 2 < w3.heap.size; exact l3
    · show w.heap.size + 2 < w3.heap.size; exact l3
  · go_wp2_with (at_delete; go_must (refine wpList_delete_own _ rfl _ _ 70 2 rfl 55 Tryz.keyed Tryz.underlying70 plElem w1.heap.size n D rfl own _ _ rfl hkk ?_; intro w3 own3 hturn3; have gr3 := hturn3.grown; have hR3 := block_grown gr3 hR2 (fun e => by have e := Option.some.inj e; omega); have hN3 := block_grown gr3 hN2 (fun e => by have e := Option.some.inj e; omega); have B3 := B2.grown gr3 B2.size (fun g hg => by cases hg; omega); obtain ⟨u0, u1, u2⟩ := row3' hN3; have lu := lt_of_cell u0))
    have PO := fun W => pairOf_any nk true nv W
    go_wp2_with fail
    refine (PO _).mono ?_
    rintro e w4 ⟨rfl, b4⟩
    have own4 : w4.ownsMap Tryz.prog 2 plElem w1.heap.size n (D.del (kk nk)) := own3.kept (row := none) ⟨b4.os, b4.tape, b4.output, b4.size, fun k hk _ => b4.block k hk⟩ (by simp)
    have hR4 := block_below b4 hR3
    have B4 := B3.trans (b4.mono B3.size)
    have l4 := (Array.getElem?_eq_some_iff.1 hR4).1
    have HM4 := hid (HMP.out.put own4.isMap ⟨nv, nk⟩ (fun q hq => by have := (List.mem_filter.1 hq).2; simpa using this))
    clear PO own3 hN3 hR3 u0 u1 u2 lu b4
    go_wp2_with (at_mapUpdate; go_must (refine wpList_mapUpdate_own _ rfl _ _ _ 70 rfl 2 55 Tryz.keyed Tryz.underlying70 plElem w1.heap.size n (D.del (kk nk)) rfl own4 ?_ _ _ _ rfl rfl hkk _ [] (plElem_mk _ _) ?_; (focus (unfold maxLen; omega)); intro w6 own6 gr6; have hR6 := block_grown gr6 hR4 (fun e => by have e := Option.some.inj e; omega); have B6 := B4.grown gr6 B4.size (fun g hg => by cases hg; omega); have hsz := own6.size_le; go_frame))
    refine (sortedP_any w1.heap.size (n + 1) _ _ _ own6 HM4.out (Nat.le_trans hsz (by omega))).mono ?_
    rintro e w5 ⟨a5, m5, c5, rfl, hm5, o5, b5⟩
    have hR5 := block_below b5 hR6
    have B5 := B6.trans (b5.mono B6.size)
    have lz := (Array.getElem?_eq_some_iff.1 hR5).1
    have l6 := (Array.getElem?_eq_some_iff.1 hR6).1
    have hz6 := B6.size
    obtain ⟨y0, y1, f0, f1⟩ := row2 hR5
    go_wp2
    refine bodyPost_ret (v := .agg #[.int .i64 0, .slice a5 m5 c5]) (by simp [results, Tryz.results10, go_sem, y0, y1]) rfl ⟨a5, m5, c5, rfl, hm5, ?_, (B5.setCell (p := ⟨w.heap.size + 2, 0, none⟩) (by show w.heap.size ≤ w.heap.size + 2; omega) _).setCell (p := ⟨w.heap.size + 2, 1, none⟩) (by show w.heap.size ≤ w.heap.size + 2; omega) _⟩
    rw [HY.out (by first | rfl | trivial)]
    refine owns_base (base := w6.heap.size) (ownsRow_setCell_below (ownsRow_setCell_below o5 ?_ _) ?_ _) hz6
    · show w.heap.size + 2 < w6.heap.size; exact l6
    · show w.heap.size + 2 < w6.heap.size; exact l6
end Go.Proofs.YthfanfnbjldddaaGreat

