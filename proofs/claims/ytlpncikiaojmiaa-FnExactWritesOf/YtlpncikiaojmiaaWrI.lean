/- WritesOf of the program. -/
import Derived.Test.YtlpncikiaojmiaaItA
import Derived.Test.YtlpncikiaojmiaaCpI
import Derived.Test.YtlpncikiaojmiaaAcF
import Derived.Test.YtlpncikiaojmiaaStW
namespace Go.Proofs.Ytlpncikiaojmiaa
open Go.RowKit Go.Shelf

attribute [local go_sem] Oper.semAt_some

theorem wpListIn_appI {F : Fence} {d : Nat} {ops : Array Oper} {rest : List Oper} {o : Oper} {a : Act} {w : World} {Q : Exit → Act → World → Prop} (s x : Operand)
    (B : Nat) (v : Value) (n : Nat) (rs : List Int) (r : Int) (hn : n ≤ 1048576)
    (ho : o.op = .call { callee := .builtin .append, args := #[s, x], argTypes := #[24, 24] }) (hgd : o.guard = none)
    (hs : a.eval s = v) (hx : ∃ h c t, a.eval x = .slice (some ⟨h, 0, none⟩) 1 c ∧ w.heap[h]? = some (.cells #[.int .i64 r] t (0, 0)))
    (hown : w.ownsRow B 2 1 v n (icells rs)) (hbase : B ≤ w.heap.size)
    (hK : ∀ g' cp' w', w'.ownsRow B 2 1 (.slice (some ⟨g', 0, none⟩) (n + 1) cp') (n + 1) (icells (rs ++ [r])) → Below B w w' → KeepsOthers w w' → wpListIn F d Try.prog ops Q rest (a.put o.dst (.slice (some ⟨g', 0, none⟩) (n + 1) cp')) w') :
    wpListIn F d Try.prog ops Q (o :: rest) a w := by
  obtain ⟨h, c, t, hx, hblk⟩ := hx
  obtain ⟨i0, hi, hz0, hz1, hz2⟩ := info_parts Try.info2
  refine wpListIn_append_own w hgd s x 24 ho B 2 i0 _ 1 8 Try.underlying24 hi hz0 hz1 hz2 rfl (by omega) v n (icells rs) hs hown ⟨h, 0, none⟩ 1 c [.int .i64 r] hx rfl (World.news_of_block hblk) (by simp [Value.oneCell']) (by unfold maxLen; omega) (by omega) hbase ?_
  intro v' w' hown' hgrow _
  rw [show icells rs ++ [.int .i64 r] = icells (rs ++ [r]) by simp [icells]] at hown'
  obtain ⟨g', cap', rfl⟩ := ownsRow_succ hown'
  refine hK g' cap' w' hown' ((Below.refl _ _).grown hgrow hbase (fun k hk => ?_)) (KeepsOthers.of_grownBy hgrow (fun j ob hj hob => ?_))
  · rcases hown.2 with ⟨hv, _⟩ | ⟨g, cap', cur, hv, hb, _⟩
    · subst hv; simp [Value.ownBlock] at hk
    · subst hv; simp [Value.ownBlock] at hk; omega
  · rcases hown.2 with ⟨hv, _⟩ | ⟨g, cap', cur, hv, hb, hh, _⟩
    · subst hv; simp [Value.ownBlock] at hj
    · subst hv
      simp [Value.ownBlock] at hj
      subst hj
      rw [hh] at hob
      cases hob
      rfl

theorem owns_cellsA {W W' : World} {row : Option Nat} {base : Nat} {e : TypeId} {size : Nat} {v : Value} {n : Nat} {xs : List Value} (h : W.ownsRow base e size v n xs) (hg : W.grownBy W' row) (hr : ∀ r, row = some r → ∃ o : Obj, W.heap[r]? = some o ∧ o.isCells = false) : W'.ownsRow base e size v n xs := by
  refine owns_grown h hg (fun g hv hrow => ?_)
  obtain ⟨o, ho, hc⟩ := hr g hrow
  rcases h.2 with ⟨hv', _⟩ | ⟨g', cap', cur, hv', hb, hh, _⟩
  · subst hv'; simp [Value.ownBlock] at hv
  · subst hv'
    simp [Value.ownBlock] at hv
    subst hv
    rw [hh] at ho
    cases ho
    cases hc
theorem block_keptA {W W' : World} {row : Option Nat} {g : Nat} {cs : Array Value} {t : TypeId} (h : W.heap[g]? = some (.cells cs t (0, 0))) (hg : W.grownBy W' row) (hr : ∀ r, row = some r → ∃ o : Obj, W.heap[r]? = some o ∧ o.isCells = false) : W'.heap[g]? = some (.cells cs t (0, 0)) := by
  have hlt : g < W.heap.size := (Array.getElem?_eq_some_iff.1 h).1
  rw [hg.block g hlt (fun e => ?_)]
  · exact h
  · obtain ⟨o, ho, hc⟩ := hr g e.symm
    rw [h] at ho
    cases ho
    cases hc
theorem row2A {W : World} {g : Nat} {t : TypeId} {u0 u1 : Value} (h : W.heap[g]? = some (.cells #[u0, u1] t (0, 0))) : W.cell? ⟨g, 0, none⟩ = some u0 ∧ W.cell? ⟨g, 1, none⟩ = some u1 :=
  ⟨cell_of_row _ _ _ _ _ _ h, cell_of_row _ _ _ _ _ _ h⟩
/-- The cells of an act's box. -/
abbrev acC (ts : List Ch.Ac) (sv : Nat → Value) (i : Nat) : Array Value := #[.int .i64 (Ch.acAt ts i).tx, .int .i64 (Ch.acAt ts i).k, .int .i64 (Ch.acAt ts i).a, .int .i64 (Ch.acAt ts i).b, .int .i64 (Ch.acAt ts i).v, sv i]

set_option maxRecDepth 100000 in
set_option maxHeartbeats 4000000 in
theorem implWrites_ok (a : Option Addr) (n cap : Nat) (txn : Int) (ts : List Ch.Ac) (w : World) (h : AcAt w a n ts) (hn : n ≤ 220) (hF : Ch.acsF ts = 0) (ht : Ch.inB txn 1 999 = true) :
    Calls Try.prog 29 #[.slice a n cap, .int .i64 txn] w fun e w' => ∃ a' m c', e = .returned (.agg #[.int .i64 0, .slice a' m c']) ∧ w'.ownsRow w.heap.size 2 1 (.slice a' m c') m (icells (Ch.wrL ts txn)) ∧ Below w.heap.size w w' := by
  obtain ⟨sv, hV⟩ := h.named
  have HFz := hid (Ch.acsF_zero hF).2
  refine (callsIn_wide (n := 6)).1 ?_
  refine callsIn_of_wp_marks Try.func29 rfl trivial ?_ rfl
  simp only [Try.ntmps29, List.size_toArray, List.length_cons, List.length_nil, Nat.reduceAdd, Nat.reduceSub, Array.replicate_succ, Array.replicate_zero, List.push_toArray, List.append_toArray, List.nil_append, List.cons_append]
  gi_wp2_with fail
  refine ⟨trivial, (callsIn_wide.2 (implActs_any a n cap ts _ (h.below ((Below.refl _ _).alloc (Nat.le_refl _) _)) (by omega))).mono ?_⟩
  rintro e w1 ⟨rfl, b1⟩
  rw [hF]
  have hR1 : w1.heap[w.heap.size]? = some (.cells #[.int .i64 0, .slice none 0 0] 53 (0, 0)) := (b1.block w.heap.size (by simp)).trans (heap_alloc_new w _)
  have hB1 : Below w.heap.size w w1 := below_box b1
  have hsz1 : w.heap.size < w1.heap.size := by have := b1.size; simp at this; omega
  clear b1
  gi_wp2_with fail
  refine ⟨trivial, (callsIn_wide.2 (isTxn_any txn _)).mono ?_⟩
  rintro e w1' ⟨rfl, rfl⟩
  rw [ht]
  gi_wp2_with fail
  refine ⟨trivial, (callsIn_wide.2 (actsOf_any a n cap txn _)).mono ?_⟩
  rintro e w2 ⟨rfl, rfl⟩
  gi_wp2_with fail
  have hV1 : AcV w1' a n sv ts := hV.below hB1
  obtain ⟨HH, hHH⟩ : ∃ HH, w1'.heap.size = HH := ⟨_, rfl⟩
  have hB0 : Below w.heap.size w (((w1'.alloc (.cells #[.slice none 0 0] 24)).alloc (.cells #[.slice a n cap] 32)).alloc (.cells #[.int .i64 txn] 2)) := ((hB1.alloc (by omega) _).alloc (by simp; omega) _).alloc (by simp; omega) _
  have hB0' : Below w1'.heap.size w1' (((w1'.alloc (.cells #[.slice none 0 0] 24)).alloc (.cells #[.slice a n cap] 32)).alloc (.cells #[.int .i64 txn] 2)) := (((Below.refl _ _).alloc (Nat.le_refl _) _).alloc (by simp) _).alloc (by simp; omega) _
  have hK0 : (((w1'.alloc (.cells #[.slice none 0 0] 24)).alloc (.cells #[.slice a n cap] 32)).alloc (.cells #[.int .i64 txn] 2)).heap[w1'.heap.size]? = some (.cells #[.slice none 0 0] 24 (0, 0)) := by
    refine (heap_old' ?_).trans ((heap_old' ?_).trans (heap_new' rfl))
    · simp; omega
    · simp
  have hc1 : (((w1'.alloc (.cells #[.slice none 0 0] 24)).alloc (.cells #[.slice a n cap] 32)).alloc (.cells #[.int .i64 txn] 2)).cell? ⟨w1'.heap.size + 1, 0, none⟩ = some (.slice a n cap) := by
    refine cell_of_row _ _ 0 #[.slice a n cap] 32 (0, 0) ((heap_old' ?_).trans (heap_new' ?_))
    · simp
    · simp
  have hc2 : (((w1'.alloc (.cells #[.slice none 0 0] 24)).alloc (.cells #[.slice a n cap] 32)).alloc (.cells #[.int .i64 txn] 2)).cell? ⟨w1'.heap.size + 1 + 1, 0, none⟩ = some (.int .i64 txn) := by
    refine cell_of_row _ _ 0 #[.int .i64 txn] 2 (0, 0) (heap_new' ?_)
    simp
  have hR0 := (hB0'.block w.heap.size hsz1).trans hR1
  have hs0 : (((w1'.alloc (.cells #[.slice none 0 0] 24)).alloc (.cells #[.slice a n cap] 32)).alloc (.cells #[.int .i64 txn] 2)).heap.size = w1'.heap.size + 3 := by simp
  rw [hHH] at hB0' hK0 hc1 hc2 hs0 hsz1 ⊢
  generalize hW0 : (((w1'.alloc (.cells #[.slice none 0 0] 24)).alloc (.cells #[.slice a n cap] 32)).alloc (.cells #[.int .i64 txn] 2)) = W0 at *
  have hwr := hid (Ch.wr_is HFz.out txn)
  have hll : Hid (n = ts.length) := h.len
  have hal := Ch.actsOf_len ts txn n
  refine wpIn_rangeFunc_ownH rfl (by decide) (gf := 72) (lb := #[.pointer (some ⟨HH + 1, 0, none⟩), .pointer (some ⟨HH + 1 + 1, 0, none⟩)]) rfl trivial (enters_of Try.func72 (by kernel_rfl) rfl)
    (acts_stops 5 (HH + 1) (HH + 1 + 1) (by decide) a n cap txn sv ts w1' W0 hV1 (by omega) (by rw [hHH]; exact hB0') hc1 hc2) KpA.t (KpA.b (by omega)) (Below.refl _ _) (fun _ => rfl)
    (fun pre W => (∃ a' c', W.heap[HH]? = some (.cells #[.slice a' (Ch.keysOf ts pre).length c'] 24 (0, 0)) ∧ W.ownsRow (HH + 3) 2 1 (.slice a' (Ch.keysOf ts pre).length c') (Ch.keysOf ts pre).length (icells (Ch.keysOf ts pre))) ∧ W.heap[w.heap.size]? = some (.cells #[.int .i64 0, .slice none 0 0] 53 (0, 0)) ∧ HH + 3 ≤ W.heap.size ∧ Below w.heap.size w W)
    (fun _ _ _ => False)
    ?hI (fun _ _ _ _ _ hs _ _ => hs)
    ⟨⟨none, 0, hK0, World.ownsRow_nil _ _ _ _⟩, hR0, by omega, hB0⟩
    (fun x a' W => ∃ Bx, HH + 3 ≤ Bx ∧ W.heap[Bx]? = some (.cells (acC ts sv x) 68 (0, 0)) ∧ a' = { tmps := #[.slice a n cap, .int .i64 txn, undef, undef, .pointer (some ⟨w.heap.size, 0, none⟩), .int .i64 0, .pointer (some ⟨HH, 0, none⟩), .pointer (some ⟨Bx, 0, none⟩), .slice a n cap, .int .i64 0, .int .i64 0, .bool false, undef, undef, .int .i64 txn, .bool true, .bool false, undef, .slice a n cap, .int .i64 txn, .func (.func 72) #[] #[.pointer (some ⟨HH + 1, 0, none⟩), .pointer (some ⟨HH + 1 + 1, 0, none⟩)], .agg (acC ts sv x), undef, undef, undef, undef, undef, undef, undef, undef, undef, undef, undef, undef, undef, undef, undef], defers := [] })
    ?hAx ?assign ?body ?done ?stop
  case hI =>
    rintro s A B row ⟨⟨a', c', hh, ho⟩, hr0, hz, hB⟩ hg hr
    exact ⟨⟨a', c', block_keptA hh hg (fun r e => (hr r e).2), owns_cellsA ho hg (fun r e => (hr r e).2)⟩, block_keptA hr0 hg (fun r e => (hr r e).2), Nat.le_trans hz hg.size, hB.grown hg hB.size (fun k e => by have := (hr k e).1; omega)⟩
  case hAx =>
    rintro x a' s A B row ⟨Bx, hle, hh, he⟩ hg hr
    exact ⟨Bx, hle, block_keptA hh hg (fun r e => (hr r e).2), he⟩
  case assign =>
    rintro l pre x W K ⟨⟨a', c', hh, ho⟩, hr0, hz, hB⟩ hK
    obtain ⟨ai, ni, ci, hsv, _, _⟩ := hV.2.2 x
    simp only [encA, hsv]
    gi_wp2
    refine hK _ _ ((KeepsOthers.alloc _ _).from _) ⟨(Below.refl _ _).alloc (by omega) _, fun v hv => keep_cell ((Below.refl _ _).alloc (Nat.le_refl _) _) hv, fun v hv => keep_cell ((Below.refl _ _).alloc (Nat.le_refl _) _) hv⟩ ⟨⟨a', c', (heap_old' (by omega)).trans hh, ho.alloc _⟩, (heap_old' (by omega)).trans hr0, by simp; omega, hB.alloc (by omega) _⟩ ⟨W.heap.size, hz, by rw [acC, hsv]; exact heap_new' rfl, by simp only [acC, hsv]⟩
  case body =>
    rintro l pre x a' W hl ⟨r, hr⟩ ⟨⟨a1, c1, hh, ho⟩, hr0, hz, hB⟩ ⟨Bx, hBx, hX, rfl⟩ hlt
    have hp : (Ch.keysOf ts pre).length ≤ 1048576 := by have := Ch.keysOf_len ts pre; omega
    have HY := hid (Ch.keysOf_yes ts pre x)
    have HN := hid (Ch.keysOf_no ts pre x)
    obtain ⟨ai, ni, ci, hsv, _, _⟩ := hV.2.2 x
    simp only [acC, hsv] at hX ⊢
    have x0 : W.cell? ⟨HH, 0, none⟩ = some (.slice a1 (Ch.keysOf ts pre).length c1) := cell_of_row _ _ _ _ _ _ hh
    have f0 := Joins.unfrozen_of_block hh 0
    have y1 : W.cell? ⟨Bx, 1, none⟩ = some (.int .i64 (Ch.acAt ts x).k) := cell_of_row _ _ _ _ _ _ hX
    have y2 : W.cell? ⟨Bx, 1 + 1, none⟩ = some (.int .i64 (Ch.acAt ts x).a) := cell_of_row _ _ _ _ _ _ hX
    have ne1 : ¬ Bx = HH := by omega
    have ne2 : ¬ HH = Bx := by omega
    have hx1 : HH < W.heap.size := by omega
    have hx2 : Bx < W.heap.size := lt_of_cell y1
    have l13 : HH < HH + 3 := by omega
    cases hw : Ch.isW (Ch.acAt ts x).k with
    | true =>
      have HK := hid (HY.out hw)
      clear HY HN hl hr r hX
      generalize Ch.keysOf ts pre = zs at *
      generalize hpl : zs.length = p at *
      generalize (Ch.acAt ts x).k = kd at *
      generalize (Ch.acAt ts x).a = ky at *
      generalize (Ch.acAt ts x).tx = kt at *
      generalize (Ch.acAt ts x).b = kb at *
      generalize (Ch.acAt ts x).v = kv at *
      gi_wp2_with fail
      refine ⟨trivial, (callsIn_wide.2 (isWrite_any _ _)).mono ?_⟩
      rintro e w' ⟨rfl, hww⟩
      rw [hw, hww]
      clear hww w'
      gi_wp2_with (gi_at_builtin; go_must (refine wpListIn_appI (.tmp 26) (.tmp 30) (HH + 3) (.slice a1 p c1) p zs ky hp ?_ ?_ ?_ ?_ ?_ ?_ ?_; exact rfl; exact rfl; exact rfl; (refine ⟨_, _, 2, rfl, ?_⟩; refine heap_new' ?_; (focus (first | rfl | (simp; done)))); exact ho.alloc _; (focus (simp; omega)); intro g3 c3 w3 own3 b3 k3; have hh3 := (b3.block HH l13).trans ((heap_old' hx1).trans hh); have z0 : w3.cell? ⟨HH, 0, none⟩ = some (.slice a1 p c1) := cell_of_row _ _ _ _ _ _ hh3; have g0 := Joins.unfrozen_of_block hh3 0))
      have hz3 := b3.size
      simp at hz3
      have kA : KeepsOthers W w3 := (KeepsOthers.alloc _ _).trans k3
      have bA : Below w.heap.size W w3 := ((Below.refl w.heap.size W).alloc (by omega) _).trans (b3.mono (by omega))
      have hhF := Joins.block_setCell (i := 0) hh3 (.slice (some ⟨g3, 0, none⟩) (p + 1) c3)
      simp only [List.setIfInBounds_toArray, List.set_cons_zero] at hhF
      have hkeep : ∀ b', HH < b' → b' < HH + 3 → ∀ v, W.cell? ⟨b', 0, none⟩ = some v → (w3.setCell ⟨HH, 0, none⟩ (.slice (some ⟨g3, 0, none⟩) (p + 1) c3)).cell? ⟨b', 0, none⟩ = some v := by
        intro b' h1 h2 v hv
        rw [World.cell?_setCell_other _ _ _ _ (by first | (simp; done) | (simp; omega)), b3.cell (p := ⟨b', 0, none⟩) (by simpa using h2)]
        exact keep_cell ((Below.refl _ _).alloc (Nat.le_refl _) _) hv
      refine ⟨(kA.trans (KeepsOthers.setCell _ _ _)).from _, ⟨?_, hkeep _ (by omega) (by omega), hkeep _ (by omega) (by omega)⟩, ⟨⟨some ⟨g3, 0, none⟩, c3, ?_, ?_⟩, ?_, by simp; omega, (hB.trans bA).setCell (p := ⟨HH, 0, none⟩) (by simp; omega) _⟩⟩
      · have bH : Below HH W w3 := ((Below.refl HH W).alloc (by omega) _).trans (b3.mono (by omega))
        rw [hHH]
        exact bH.setCell (p := ⟨HH, 0, none⟩) (Nat.le_refl _) _
      · rw [HK.out, List.length_append, hpl]
        exact hhF
      · rw [HK.out, List.length_append, hpl]
        exact ownsRow_setCell_below (a := ⟨HH, 0, none⟩) own3 (by simp) _
      · have bX : Below HH W w3 := ((Below.refl HH W).alloc (by omega) _).trans (b3.mono (by omega))
        exact ((bX.setCell (p := ⟨HH, 0, none⟩) (Nat.le_refl _) _).block w.heap.size (by omega)).trans hr0
    | false =>
      have HK := hid (HN.out hw)
      clear HY HN hl hr r hX
      gi_wp2_with fail
      refine ⟨trivial, (callsIn_wide.2 (isWrite_any _ _)).mono ?_⟩
      rintro e w' ⟨rfl, rfl⟩
      rw [hw]
      gi_wp2
      refine ⟨(KeepsOthers.refl _).from _, ⟨Below.refl _ _, fun v hv => hv, fun v hv => hv⟩, ⟨a1, c1, ?_, ?_⟩, hr0, hz, hB⟩
      · rw [HK.out]; exact hh
      · rw [HK.out]; exact ho
  case done =>
    rintro D ys W hD rfl ⟨⟨a1, c1, hh, ho⟩, hr0, hz, hB⟩ hK
    rw [hll.out] at hh ho
    have hp : (Ch.keysOf ts (Ch.actsOf ts txn ts.length)).length ≤ 1048576 := by have := Ch.keysOf_len ts (Ch.actsOf ts txn ts.length); have := Ch.actsOf_len ts txn ts.length; have := hll.out; omega
    generalize Ch.keysOf ts (Ch.actsOf ts txn ts.length) = zs at *
    have HZl : Hid (zs.length = (icells zs).length) := (icells_len zs).symm
    generalize hpl : zs.length = p at *
    have x0 : W.cell? ⟨HH, 0, none⟩ = some (.slice a1 p c1) := cell_of_row _ _ _ _ _ _ hh
    have hneD : w.heap.size ≠ D := by omega
    have hDl : D < W.heap.size := (Array.getElem?_eq_some_iff.1 hK).1
    rcases ho.2 with ⟨hnil, hp0⟩ | ⟨g, cap', cur, hv, hbase, hb, _⟩
    · cases hnil
      obtain rfl : zs = [] := List.eq_nil_of_length_eq_zero hpl
      have HW : Hid ([] = Ch.wrL ts txn) := by
        show _ = _
        rw [← hwr.out, List.mergeSort_nil]
        rfl
      obtain ⟨y0, y1⟩ := row2A hr0
      have f0 := Joins.unfrozen_of_block hr0 0
      have f1 := Joins.unfrozen_of_block hr0 1
      gi_wp2_with fail
      refine ⟨trivial, (callsIn_wide.2 (sortN_any _ _ _)).mono ?_⟩
      rintro e w4 ⟨rfl, hww⟩
      rw [hww]
      clear hww w4
      gi_wp2_with fail
      refine ⟨trivial, (callsIn_wide.2 (compactN_any _ _ _)).mono ?_⟩
      rintro e w4 ⟨rfl, hww⟩
      rw [hww]
      clear hww w4
      rw [HW.out] at ho
      have hF := Joins.block_setCell (i := 1) (Joins.block_setCell (i := 0) hr0 (.int .i64 0)) (.slice none 0 0)
      simp only [List.setIfInBounds_toArray, List.set_cons_zero, List.set_cons_succ] at hF
      have hKF := (KeepsOthers.setCell _ ⟨w.heap.size, 1, none⟩ (.slice none 0 0)).same D _ ((KeepsOthers.setCell W ⟨w.heap.size, 0, none⟩ (.int .i64 0)).same D _ hK rfl) rfl
      have hoF := ownsRow_setCell_below (a := ⟨w.heap.size, 1, none⟩) (ownsRow_setCell_below (a := ⟨w.heap.size, 0, none⟩) ho (by simp; omega) (.int .i64 0)) (by simp; omega) (.slice none 0 0)
      have hBF := (hB.setCell (p := ⟨w.heap.size, 0, none⟩) (Nat.le_refl _) (.int .i64 0)).setCell (p := ⟨w.heap.size, 1, none⟩) (Nat.le_refl _) (.slice none 0 0)
      gi_wp2
      generalize ((W.setCell ⟨w.heap.size, 0, none⟩ (.int .i64 0)).setCell ⟨w.heap.size, 1, none⟩ (.slice none 0 0)) = Wf at *
      obtain ⟨q0, q1⟩ := row2A ((World.putObj_heap_other hneD).trans hF : (Wf.putObj D (.deferred none)).heap[w.heap.size]? = _)
      refine ⟨by simp, .inl ⟨_, _, rfl, run_takeDeferred hKF, ?_⟩⟩
      refine ⟨.agg #[.int .i64 0, .slice none 0 0], ?_, none, 0, 0, rfl, ?_, hBF.trans (belowK_b (w := w) (Nat.le_refl _) Wf D _ _ (by omega) hKF rfl rfl)⟩
      · simp [results, Try.results29, go_sem, q0, q1]
      · exact owns_base (ownsRow_putObj hoF _ hKF rfl) (by omega)
    · cases hv
      have hgl : g < W.heap.size := (Array.getElem?_eq_some_iff.1 hb).1
      have hDg : some D ≠ some g := by
        intro e
        simp only [Option.some.injEq] at e
        subst e
        rw [hb] at hK
        cases hK
      gi_wp2_with fail
      refine ⟨trivial, (callsIn_wide.2 (sortI_any (HH + 3) g p c1 zs W ho hp)).mono ?_⟩
      rintro e w4 ⟨rfl, own4, gr4⟩
      have hh4 := (gr4.block HH (by omega) (by simp; omega)).trans hh
      have hr4 := (gr4.block w.heap.size (by omega) (by simp; omega)).trans hr0
      have hK4 := (gr4.block D hDl hDg).trans hK
      have z4 : w4.cell? ⟨HH, 0, none⟩ = some (.slice (some ⟨g, 0, none⟩) p c1) := cell_of_row _ _ _ _ _ _ hh4
      have hB4 := hB.grown gr4 hB.size (fun j hj => by cases hj; omega)
      have hs4 := gr4.size
      gi_wp2_with fail
      refine ⟨trivial, (callsIn_wide.2 (compactI_any (HH + 3) g p c1 _ w4 own4 hp)).mono ?_⟩
      rintro e w5 ⟨rfl, own5, gr5⟩
      rw [hwr.out] at own5 ⊢
      have hr5 := (gr5.block w.heap.size (by omega) (by simp; omega)).trans hr4
      have hK5 := (gr5.block D (by omega) hDg).trans hK4
      have hB5 := hB4.grown gr5 hB4.size (fun j hj => by cases hj; omega)
      obtain ⟨y0, y1⟩ := row2A hr5
      have f0 := Joins.unfrozen_of_block hr5 0
      have f1 := Joins.unfrozen_of_block hr5 1
      have hs5 := gr5.size
      generalize hwl : (Ch.wrL ts txn).length = m at *
      have hF := Joins.block_setCell (i := 1) (Joins.block_setCell (i := 0) hr5 (.int .i64 0)) (.slice (some ⟨g, 0, none⟩) m c1)
      simp only [List.setIfInBounds_toArray, List.set_cons_zero, List.set_cons_succ] at hF
      have hKF := (KeepsOthers.setCell _ ⟨w.heap.size, 1, none⟩ (.slice (some ⟨g, 0, none⟩) m c1)).same D _ ((KeepsOthers.setCell w5 ⟨w.heap.size, 0, none⟩ (.int .i64 0)).same D _ hK5 rfl) rfl
      have hoF := ownsRow_setCell_below (a := ⟨w.heap.size, 1, none⟩) (ownsRow_setCell_below (a := ⟨w.heap.size, 0, none⟩) own5 (by simp; omega) (.int .i64 0)) (by simp; omega) (.slice (some ⟨g, 0, none⟩) m c1)
      have hBF := (hB5.setCell (p := ⟨w.heap.size, 0, none⟩) (Nat.le_refl _) (.int .i64 0)).setCell (p := ⟨w.heap.size, 1, none⟩) (Nat.le_refl _) (.slice (some ⟨g, 0, none⟩) m c1)
      gi_wp2
      generalize ((w5.setCell ⟨w.heap.size, 0, none⟩ (.int .i64 0)).setCell ⟨w.heap.size, 1, none⟩ (.slice (some ⟨g, 0, none⟩) m c1)) = Wf at *
      obtain ⟨q0, q1⟩ := row2A ((World.putObj_heap_other hneD).trans hF : (Wf.putObj D (.deferred none)).heap[w.heap.size]? = _)
      refine ⟨by simp, .inl ⟨_, _, rfl, run_takeDeferred hKF, ?_⟩⟩
      refine ⟨.agg #[.int .i64 0, .slice (some ⟨g, 0, none⟩) m c1], ?_, (some ⟨g, 0, none⟩), m, c1, rfl, ?_, hBF.trans (belowK_b (w := w) (Nat.le_refl _) Wf D _ _ (by omega) hKF rfl rfl)⟩
      · simp [results, Try.results29, go_sem, q0, q1]
      · exact owns_base (ownsRow_putObj hoF _ hKF rfl) (by omega)
  case stop =>
    rintro D c pre W _ _ h _
    exact h.elim

set_option maxHeartbeats 1000000 in
theorem implWrites_any (a : Option Addr) (n cap : Nat) (txn : Int) (ts : List Ch.Ac) (w : World) (h : AcAt w a n ts) (hn : n ≤ 1048576) :
    Calls Try.prog 29 #[.slice a n cap, .int .i64 txn] w fun e w' => ∃ a' m c', e = .returned (.agg #[.int .i64 (Ch.wrR ts txn).1, .slice a' m c']) ∧ w'.ownsRow w.heap.size 2 1 (.slice a' m c') m (icells (Ch.wrR ts txn).2) ∧ Below w.heap.size w w' := by
  by_cases h0 : Ch.acsF ts = 0
  · cases ht : Ch.inB txn 1 999 with
    | true =>
      rw [Ch.wrR_ok h0 ht]
      exact implWrites_ok a n cap txn ts w h (by have := (Ch.acsF_zero h0).1; have := h.len.out; omega) h0 ht
    | false =>
      rw [Ch.wrR_txn h0 ht]
      have hb0 : Below w.heap.size w (w.alloc (.cells #[.int .i64 0, .slice none 0 0] 53)) := (Below.refl _ _).alloc (Nat.le_refl _) _
      go_enter Try.func29, Try.ntmps29
      go_wp2_with fail
      refine (implActs_any a n cap ts _ (h.below hb0) hn).mono ?_
      rintro e w1 ⟨rfl, b1⟩
      rw [h0]
      obtain ⟨cA, fA⟩ := bcell b1
      have x0 := cA w.heap.size 0 (by simp)
      have x1 := cA w.heap.size 1 (by simp)
      have fx0 := fA w.heap.size 0 (by simp)
      have fx1 := fA w.heap.size 1 (by simp)
      clear cA fA
      simp [go_sem] at x0 x1 fx0 fx1
      have hz := lt_of_cell x0
      go_wp2_with (go_at_call 60; refine (isTxn_any _ _).mono ?_; rintro e w' ⟨rfl, hww⟩; rw [ht, hww]; clear hww w')
      refine bodyPost_ret (v := .agg #[.int .i64 3, .slice none 0 0]) (by simp [results, Try.results29, go_sem, x0, x1]) rfl ⟨none, 0, 0, rfl, World.ownsRow_nil _ _ _ _, ?_⟩
      exact ((below_box b1).setCell (p := ⟨w.heap.size, 0, none⟩) (Nat.le_refl _) _).setCell (p := ⟨w.heap.size, 1, none⟩) (Nat.le_refl _) _
  · obtain ⟨c, HC⟩ : ∃ c, Hid (Ch.acsF ts = c) := ⟨_, rfl⟩
    have hc : (c != 0) = true := by rw [← HC.out]; simpa using h0
    rw [Ch.wrR_bad HC.out hc]
    have hb0 : Below w.heap.size w (w.alloc (.cells #[.int .i64 0, .slice none 0 0] 53)) := (Below.refl _ _).alloc (Nat.le_refl _) _
    clear h0
    go_enter Try.func29, Try.ntmps29
    go_wp2_with fail
    refine (implActs_any a n cap ts _ (h.below hb0) hn).mono ?_
    rintro e w1 ⟨rfl, b1⟩
    rw [HC.out]
    obtain ⟨cA, fA⟩ := bcell b1
    have x0 := cA w.heap.size 0 (by simp)
    have x1 := cA w.heap.size 1 (by simp)
    have fx0 := fA w.heap.size 0 (by simp)
    have fx1 := fA w.heap.size 1 (by simp)
    clear cA fA
    simp [go_sem] at x0 x1 fx0 fx1
    have hz := lt_of_cell x0
    go_wp2
    refine bodyPost_ret (v := .agg #[.int .i64 c, .slice none 0 0]) (by simp [results, Try.results29, go_sem, x0, x1]) rfl ⟨none, 0, 0, rfl, World.ownsRow_nil _ _ _ _, ?_⟩
    exact ((below_box b1).setCell (p := ⟨w.heap.size, 0, none⟩) (Nat.le_refl _) _).setCell (p := ⟨w.heap.size, 1, none⟩) (Nat.le_refl _) _
end Go.Proofs.Ytlpncikiaojmiaa
