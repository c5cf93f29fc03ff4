/- Several texts in one: EdT, EdU, EdV. -/
import Derived.Test.YtjagobcogkdfhaaEdI
import Derived.Maps.RangeWalk
import Derived.MapViews
import Derived.ChangeSame


/- The set of edges: keys of a map. -/
namespace Go.Proofs.Ytjagobcogkdfhaa
open Go.RowKit Go.Maps Go.ChangeShapes

theorem Try.laidE : laidOutB Try.prog = true := by kernel_rfl
theorem Try.rowE : (46 : TypeId) < Try.prog.types.size := of_decide_eq_true (by kernel_rfl)
theorem Try.cellsE : Try.prog.cellsOf 46 = 2 := by kernel_rfl
theorem Try.cellsI : Try.prog.cellsOf 2 = 1 := by kernel_rfl
theorem Try.deepE : Try.prog.keyTypeAt (Try.prog.types.size + 1) 46 = true := by kernel_rfl
theorem Try.wideE : (match Try.prog.underlying 46 with | some (.array _ _) | some (.struct _) => true | _ => false) = true := by rw [Try.underlying46]
set_option maxRecDepth 100000 in
theorem Try.keyedE : Keyed Try.prog 46 := Keyed.of_law (deep_law_laid Try.laidE (m := 2) (by omega) Try.rowE (by kernel_rfl) Try.wideE)
theorem Try.formedE {c0 c1 : Value} : (Value.agg #[c0, c1]).formed Try.prog 46 = true := by simp [Value.formed, Try.underlying46, Try.cellsE]
/-- An edge as a key. -/
def ke (t m : Int) : Lit := (DataW.agg (H := Unit) [.lit (.int .i64 t), .lit (.int .i64 m)]).asKey
set_option maxRecDepth 100000 in
theorem ke_key (W : World) {t m : Int} (h1 : 1 ≤ t ∧ t ≤ 999) (h2 : 1 ≤ m ∧ m ≤ 999) : keyOf Try.prog 46 (.agg #[.int .i64 t, .int .i64 m]) = some (ke t m) := by
  have w1 : (Lit.int .i64 t).wf = true := WalkArith.wf_i64 (by omega)
  have w2 : (Lit.int .i64 m).wf = true := WalkArith.wf_i64 (by omega)
  have hT : DataW.Trod (H := Unit) (fun _ => ()) Try.prog W 0 (fun _ => true) true 46 (.agg #[.int .i64 t, .int .i64 m]) (.agg [.lit (.int .i64 t), .lit (.int .i64 m)]) [] := by
    refine ⟨2, ?_⟩
    have h0 := trod_int_mk (enc := fun _ => ()) (P := Try.prog) (w := W) (base := 0) (spare := fun _ => true) (held := true) 0 Try.underlying2 w1
    have h1 := trod_int_mk (enc := fun _ => ()) (P := Try.prog) (w := W) (base := 0) (spare := fun _ => true) (held := true) 0 Try.underlying2 w2
    exact trod_struct2_mk (n := 1) (cs := [.int .i64 t, .int .i64 m]) (y0 := (.lit (.int .i64 t), [])) (y1 := (.lit (.int .i64 m), [])) Try.underlying46 (by rw [Try.cellsE]; rfl) (by simp only [Try.cellsI]; exact h0) (by simp only [Try.cellsI]; exact h1)
  exact (keyOf_asKey Try.deepE Try.wideE Try.formedE hT).1
theorem ke_ne (W : World) {t m t' m' : Int} (h1 : 1 ≤ t ∧ t ≤ 999) (h2 : 1 ≤ m ∧ m ≤ 999) (h3 : 1 ≤ t' ∧ t' ≤ 999) (h4 : 1 ≤ m' ∧ m' ≤ 999) (hne : ¬ (t = t' ∧ m = m')) : ke t m ≠ ke t' m' := by
  intro e
  have a := ke_key W h1 h2
  rw [e] at a
  have := Try.keyedE.inj a (ke_key W h3 h4)
  simp at this
  exact hne this
end Go.Proofs.Ytjagobcogkdfhaa


/- The program's set of edges: one more, those that hold in the way, those ahead. -/
namespace Go.Proofs.Ytjagobcogkdfhaa
open Go.RowKit Go.Maps

/-- What the set holds. -/
structure MpE (es : List Ch.Hold) (D : DataW Unit) : Prop where
  has : ∀ e ∈ es, Maps.has D (ke e.t e.m) = true
  only : ∀ kl, Maps.has D kl = true → ∃ e ∈ es, kl = ke e.t e.m
theorem MpE.empty : MpE [] (.map []) := ⟨fun e he => by simp at he, fun kl h => by cases h⟩
theorem ke_isKey (t m : Int) : WideAt.IsKeyLit (ke t m) := by unfold ke; simp [DataW.asKey, WideAt.IsKeyLit]
theorem MpE.put {es : List Ch.Hold} {D : DataW Unit} (h : MpE es D) (hD : Tidy D) (d : DataW Unit) (t m : Int) : MpE (es ++ [⟨t, m⟩]) (D.put (ke t m) d) := by
  refine ⟨fun e he => ?_, fun kl hk => ?_⟩
  · by_cases hke : ke e.t e.m = ke t m
    · rw [hke, has_put_same hD.isMap (ke_isKey t m)]
    · rw [has_put_other hke]
      rcases List.mem_append.1 he with he | he
      · exact h.has e he
      · rw [List.mem_singleton.1 he] at hke; exact absurd rfl hke
  · by_cases hke : kl = ke t m
    · exact ⟨⟨t, m⟩, by simp, hke⟩
    · rw [has_put_other hke] at hk
      obtain ⟨e, he, hx⟩ := h.only kl hk
      exact ⟨e, by simp [he], hx⟩

set_option maxHeartbeats 1000000 in
theorem addE_any (b q : Nat) (D : DataW Unit) (t m : Int) (w : World) (own : w.ownsMap Try.prog 46 unitElem b q D) (hq : q ≤ 1048576) (h1 : 1 ≤ t ∧ t ≤ 999) (h2 : 1 ≤ m ∧ m ≤ 999) :
    Calls Try.prog 153 #[.map (some b), .int .i64 t, .int .i64 m] w fun e w' => e = .returned (.tuple #[]) ∧ w'.ownsMap Try.prog 46 unitElem b (q + 1) (D.put (ke t m) (.agg [])) ∧ w.grownBy w' (some b) := by
  have hkey := ke_key w h1 h2
  clear h1 h2
  go_enter Try.func153, Try.ntmps153
  go_wp2_with (at_mapUpdate; go_must (refine wpList_mapUpdate_own _ rfl _ _ _ 126 rfl 46 216 Try.keyedE Try.underlying126 unitElem b q D rfl own ?_ _ _ _ rfl rfl hkey _ [] unitElem_mk ?_; (focus (unfold maxLen; omega)); intro w1 own1 gr1))
  go_end0
  exact ⟨rfl, own1, gr1⟩
end Go.Proofs.Ytjagobcogkdfhaa


/- The program's set of edges: those that hold in one's way, those ahead. -/
namespace Go.Proofs.Ytjagobcogkdfhaa
open Go.RowKit Go.Maps

theorem implFit_at {a b : Int} {v : Bool} (h : Ch.fits a b = v) (w : World) : Calls Try.prog 152 #[.int .i64 a, .int .i64 b] w fun e w' => e = .returned (.bool v) ∧ Below w.heap.size w w' := by
  refine (implFit_any a b w).mono ?_
  rintro e w' ⟨rfl, hb⟩
  exact ⟨by rw [← h]; rfl, hb⟩
theorem map_below {w w' : World} {b q : Nat} {D : DataW Unit} (h : w.ownsMap Try.prog 46 unitElem b q D) (hb : Below w.heap.size w w') : w'.ownsMap Try.prog 46 unitElem b q D := h.kept (gr_below hb none) (by simp)
theorem gr_mapB {w w' w'' : World} {b : Nat} (h : w.grownBy w' (some b)) (hb : Below w'.heap.size w' w'') : w.grownBy w'' (some b) := gr_on h (hb.mono h.size)

set_option maxHeartbeats 4000000 in
theorem addHolders_any (b q : Nat) (D : DataW Unit) (es : List Ch.Hold) (qt qm : Int) (a : Option Addr) (n cap : Nat) (hs : List Ch.Hold) (w : World) (own : w.ownsMap Try.prog 46 unitElem b q D) (mp : MpE es D) (h : CellsAt w a (n * 2) (hcells hs)) (hn : n ≤ 20) (hq : q ≤ 1000000)
    (hqn : Ch.nameH ⟨qt, qm⟩ = true) (hns : Ch.namesH hs = true) (hlow : 0 < n → ∀ hb ho, a = some ⟨hb, ho, none⟩ → hb ≠ b) (hbz : b < w.heap.size) :
    Calls Try.prog 90 #[.map (some b), .agg #[.int .i64 qt, .int .i64 qm], .slice a n cap] w fun e w' => e = .returned (.tuple #[]) ∧ (∃ q' D', w'.ownsMap Try.prog 46 unitElem b q' D' ∧ q' ≤ q + n ∧ MpE (es ++ Ch.waitE ⟨qt, qm⟩ hs) D') ∧ w.grownBy w' (some b) := by
  have HL := h.hlen
  have HNS := hid hns
  have HQN := hid (Ch.name_mode hqn)
  have HMP := hid mp
  have kA : Below w.heap.size w (w.alloc (.cells #[.int .i64 qt, .int .i64 qm] 131)) := (Below.refl _ _).alloc (Nat.le_refl _) _
  obtain ⟨y0, y1, _, _⟩ := row2 (heap_alloc_new w (.cells #[.int .i64 qt, .int .i64 qm] 131))
  have yl := lt_of_cell y0
  have own0 := own.alloc (.cells #[.int .i64 qt, .int .i64 qm] 131)
  have gr0 : w.grownBy (w.alloc (.cells #[.int .i64 qt, .int .i64 qm] 131)) (some b) := gr_below kA _
  have HLOW := hid hlow
  clear hns hqn mp own kA hlow
  go_enter Try.func90, Try.ntmps90
  go_wp2
  go_loopw [10] (fun i wr => ∃ (k q' : Nat) (D' : DataW Unit), k ≤ n ∧ i = .int .i64 k ∧ wr.ownsMap Try.prog 46 unitElem b q' D' ∧ q' ≤ q + k ∧ MpE (es ++ Ch.waitE ⟨qt, qm⟩ (hs.take k)) D' ∧ wr.cell? ⟨w.heap.size, 0, none⟩ = some (.int .i64 qt) ∧ wr.cell? ⟨w.heap.size, 1, none⟩ = some (.int .i64 qm) ∧ w.heap.size < wr.heap.size ∧ w.grownBy wr (some b)) (fun i _ => n - (intOf i).toNat)
  case atStart => exact ⟨0, q, D, Nat.zero_le _, rfl, own0, Nat.le_refl _, by simpa [Ch.waitE] using HMP.out, y0, y1, yl, gr0⟩
  case round =>
    clear y0 y1 yl own0 gr0 HMP
    obtain ⟨k, q', D', hk, rfl, own, hq', mp, z0, z1, ll, gr⟩ := hrel
    have HMP := hid mp
    clear mp
    by_cases hlt : k < n
    · have hkl : k < hs.length := by have := HL.out; omega
      have HNH := hid (Ch.name_mode (Ch.names_at HNS.out hkl))
      have HWY := hid (fun he => Ch.waitE_yes (q := ⟨qt, qm⟩) hkl he)
      have HWN := hid (fun he => Ch.waitE_no (q := ⟨qt, qm⟩) hkl he)
      obtain ⟨hb, ho, rfl, r0, r1⟩ := (cells_grown h gr (fun b' o' ha e => by cases e; exact HLOW.out (by omega) _ _ ha rfl)).hold hlt
      have hhb := lt_of_cell r0
      generalize hs.getD k Ch.Hold.zero = hh at *
      obtain ⟨rt, rm⟩ := hh
      simp only at r0 r1 HNH HWY HWN
      have kB : Below wr.heap.size wr (wr.alloc (.cells #[.int .i64 rt, .int .i64 rm] 131)) := (Below.refl _ _).alloc (Nat.le_refl _) _
      have own1 := map_below own kB
      have gr1 := gr_mapB gr kB
      obtain ⟨f, HF⟩ : ∃ f, Hid (Ch.fits rm qm = f) := ⟨_, rfl⟩
      have IF := fun W => implFit_at HF.out W
      rw [HF.out] at HWY HWN
      by_cases h1 : rt = qt
      · have e1 : (rt != qt) = false := by simpa using h1
        replace HWN := hid (HWN.out (by rw [e1]; rfl))
        clear HWY h1
        go_wp2
        go_roundw
        case rel => exact ⟨k + 1, q', D', by omega, by go_num, own1, by omega, by rw [HWN.out]; exact HMP.out, keep_cell kB z0, keep_cell kB z1, Nat.lt_of_lt_of_le ll kB.size, gr1⟩
        case measure => simp [intOf]; omega
      have e1 : (rt != qt) = true := by simpa using h1
      clear h1
      obtain ⟨x0, x1, _, _⟩ := row2 (heap_alloc_new wr (.cells #[.int .i64 rt, .int .i64 rm] 131))
      have v0 := keep_cell kB z0
      have v1 := keep_cell kB z1
      have ll1 := Nat.lt_of_lt_of_le ll kB.size
      cases f
      · replace HWY := hid (HWY.out (by rw [e1]; rfl))
        clear HWN
        go_wp2_with fail
        refine (IF _).mono ?_
        rintro e w2 ⟨rfl, b2⟩
        have own2 := map_below own1 b2
        have gr2 := gr_mapB gr1 b2
        have u0 := keep_cell b2 x0
        have s0 := keep_cell b2 v0
        have s1 := keep_cell b2 v1
        have lu := lt_of_cell u0
        have lS := lt_of_cell s0
        have hz2 := b2.size
        have HP := hid (HMP.out.put (own2.tidy Try.keyedE) (.agg []) qt rt)
        go_wp2_with fail
        refine (addE_any b q' D' qt rt _ own2 (by omega) ⟨HQN.out.2.2.2.1, HQN.out.2.2.2.2⟩ ⟨HNH.out.2.2.2.1, HNH.out.2.2.2.2⟩).mono ?_
        rintro e w3 ⟨rfl, own3, gr3⟩
        have hne : b ≠ w.heap.size := by omega
        have t0 := grown_cell gr3 s0 (by simpa using fun e => hne e)
        have t1 := grown_cell gr3 s1 (by simpa using fun e => hne e)
        have lt3 := lt_of_cell t0
        go_wp2
        go_roundw
        case rel => exact ⟨k + 1, q' + 1, _, by omega, by go_num, own3, by omega, by rw [HWY.out, ← List.append_assoc]; exact HP.out, t0, t1, lt3, gr_trans gr2 gr3⟩
        case measure => simp [intOf]; omega
      · replace HWN := hid (HWN.out (by rw [e1]; rfl))
        clear HWY
        go_wp2_with fail
        refine (IF _).mono ?_
        rintro e w2 ⟨rfl, b2⟩
        go_wp2
        go_roundw
        case rel => exact ⟨k + 1, q', D', by omega, by go_num, map_below own1 b2, by omega, by rw [HWN.out]; exact HMP.out, keep_cell b2 v0, keep_cell b2 v1, Nat.lt_of_lt_of_le ll1 b2.size, gr_mapB gr1 b2⟩
        case measure => simp [intOf]; omega
    · obtain rfl : k = n := by omega
      have HTK : Hid (hs.take k = hs) := by have := HL.out; show _ = _; rw [this]; exact List.take_length
      rw [HTK.out] at HMP
      go_wp2
      go_end0
      exact ⟨rfl, ⟨q', D', own, hq', HMP.out⟩, gr⟩

set_option maxHeartbeats 4000000 in
theorem addAhead_any (b q : Nat) (D : DataW Unit) (es : List Ch.Hold) (qt qm : Int) (a : Option Addr) (n cap : Nat) (hs : List Ch.Hold) (w : World) (own : w.ownsMap Try.prog 46 unitElem b q D) (mp : MpE es D) (h : CellsAt w a (n * 2) (hcells hs)) (hn : n ≤ 20) (hq : q ≤ 1000000)
    (hqn : Ch.nameH ⟨qt, qm⟩ = true) (hns : Ch.namesH hs = true) (hlow : 0 < n → ∀ hb ho, a = some ⟨hb, ho, none⟩ → hb ≠ b) (hbz : b < w.heap.size) :
    Calls Try.prog 91 #[.map (some b), .agg #[.int .i64 qt, .int .i64 qm], .slice a n cap] w fun e w' => e = .returned (.tuple #[]) ∧ (∃ q' D', w'.ownsMap Try.prog 46 unitElem b q' D' ∧ q' ≤ q + n ∧ MpE (es ++ Ch.aheadE ⟨qt, qm⟩ hs) D') ∧ w.grownBy w' (some b) := by
  have HL := h.hlen
  have HNS := hid hns
  have HQN := hid (Ch.name_mode hqn)
  have HMP := hid mp
  have kA : Below w.heap.size w (w.alloc (.cells #[.int .i64 qt, .int .i64 qm] 131)) := (Below.refl _ _).alloc (Nat.le_refl _) _
  obtain ⟨y0, y1, _, _⟩ := row2 (heap_alloc_new w (.cells #[.int .i64 qt, .int .i64 qm] 131))
  have yl := lt_of_cell y0
  have own0 := own.alloc (.cells #[.int .i64 qt, .int .i64 qm] 131)
  have gr0 : w.grownBy (w.alloc (.cells #[.int .i64 qt, .int .i64 qm] 131)) (some b) := gr_below kA _
  have HLOW := hid hlow
  clear hns hqn mp own kA hlow
  go_enter Try.func91, Try.ntmps91
  go_wp2
  go_loopw [10] (fun i wr => ∃ (k q' : Nat) (D' : DataW Unit), k ≤ n ∧ i = .int .i64 k ∧ wr.ownsMap Try.prog 46 unitElem b q' D' ∧ q' ≤ q + k ∧ MpE (es ++ Ch.aheadE ⟨qt, qm⟩ (hs.take k)) D' ∧ wr.cell? ⟨w.heap.size, 0, none⟩ = some (.int .i64 qt) ∧ w.heap.size < wr.heap.size ∧ w.grownBy wr (some b)) (fun i _ => n - (intOf i).toNat)
  case atStart => exact ⟨0, q, D, Nat.zero_le _, rfl, own0, Nat.le_refl _, by simpa [Ch.aheadE] using HMP.out, y0, yl, gr0⟩
  case round =>
    clear y0 y1 yl own0 gr0 HMP
    obtain ⟨k, q', D', hk, rfl, own, hq', mp, z0, ll, gr⟩ := hrel
    have HMP := hid mp
    clear mp
    by_cases hlt : k < n
    · have hkl : k < hs.length := by have := HL.out; omega
      have HNH := hid (Ch.name_mode (Ch.names_at HNS.out hkl))
      have HWY := hid (Ch.aheadE_next (q := ⟨qt, qm⟩) hkl)
      obtain ⟨hb, ho, rfl, r0, r1⟩ := (cells_grown h gr (fun b' o' ha e => by cases e; exact HLOW.out (by omega) _ _ ha rfl)).hold hlt
      have hhb := lt_of_cell r0
      generalize hs.getD k Ch.Hold.zero = hh at *
      obtain ⟨rt, rm⟩ := hh
      simp only at r0 r1 HNH HWY
      have kB : Below wr.heap.size wr (wr.alloc (.cells #[.int .i64 rt, .int .i64 rm] 131)) := (Below.refl _ _).alloc (Nat.le_refl _) _
      have own1 := map_below own kB
      have gr1 := gr_mapB gr kB
      have v0 := keep_cell kB z0
      have HP := hid (HMP.out.put (own1.tidy Try.keyedE) (.agg []) qt rt)
      go_wp2_with fail
      refine (addE_any b q' D' qt rt _ own1 (by omega) ⟨HQN.out.2.2.2.1, HQN.out.2.2.2.2⟩ ⟨HNH.out.2.2.2.1, HNH.out.2.2.2.2⟩).mono ?_
      rintro e w3 ⟨rfl, own3, gr3⟩
      have hne : b ≠ w.heap.size := by omega
      have t0 := grown_cell gr3 v0 (by simpa using fun e => hne e)
      have lt3 := lt_of_cell t0
      go_wp2
      go_roundw
      case rel => exact ⟨k + 1, q' + 1, _, by omega, by go_num, own3, by omega, by rw [HWY.out, ← List.append_assoc]; exact HP.out, t0, lt3, gr_trans gr1 gr3⟩
      case measure => simp [intOf]; omega
    · obtain rfl : k = n := by omega
      have HTK : Hid (hs.take k = hs) := by have := HL.out; show _ = _; rw [this]; exact List.take_length
      rw [HTK.out] at HMP
      go_wp2
      go_end0
      exact ⟨rfl, ⟨q', D', own, hq', HMP.out⟩, gr⟩
end Go.Proofs.Ytjagobcogkdfhaa

