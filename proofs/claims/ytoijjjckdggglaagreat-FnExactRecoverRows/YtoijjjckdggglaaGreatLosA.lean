
/- The map of what became of each transaction; fatesOf of the program. -/
import Derived.Test.YtoijjjckdggglaaGreatLosM
import Derived.Test.YtoijjjckdggglaaGreatRvA
import Derived.Maps.OwnSet
import Derived.Maps.OwnOps
import Derived.Maps.RangeWalk
namespace Go.Proofs.YtoijjjckdggglaaGreat
open Go.RowKit Go.Maps

/-- How a fate reads. -/
def ftElem (v : Value) : Option (DataW Unit × List MemPlace) :=
  match v with
  | .agg a => match a.toList with
    | [.bool b, .bool e, .int .i64 n] => some (.agg [.lit (.bool b), .lit (.bool e), .lit (.int .i64 n)], [])
    | _ => none
  | _ => none
def kF (t : Int) : Lit := .int .i64 t
def ftD (f : Ch.Ft) : DataW Unit := .agg [.lit (.bool f.bg), .lit (.bool f.en), .lit (.int .i64 f.bk)]
def ftV (f : Ch.Ft) : Value := .agg #[.bool f.bg, .bool f.en, .int .i64 f.bk]
theorem ftElem_mk (b e : Bool) (n : Int) : ftElem (.agg #[.bool b, .bool e, .int .i64 n]) = some (ftD ⟨b, e, n⟩, []) := rfl
theorem ftElem_inv {v : Value} {f : Ch.Ft} {ps : List MemPlace} (h : ftElem v = some (ftD f, ps)) : v = .agg #[.bool f.bg, .bool f.en, .int .i64 f.bk] := by
  unfold ftElem at h
  split at h
  · rename_i a
    split at h
    · rename_i b e n he
      simp [ftD] at h
      obtain ⟨⟨rfl, rfl, rfl⟩, _⟩ := h
      have : a = #[.bool f.bg, .bool f.en, .int .i64 f.bk] := by
        cases a
        simpa using he
      rw [this]
    · simp at h
  · simp at h
theorem ftElem_some {v : Value} {y : DataW Unit × List MemPlace} (h : ftElem v = some y) : ∃ f : Ch.Ft, v = .agg #[.bool f.bg, .bool f.en, .int .i64 f.bk] ∧ y = (ftD f, []) := by
  unfold ftElem at h
  split at h
  · rename_i a
    split at h
    · rename_i b e n he
      simp only [Option.some.injEq] at h
      have : a = #[.bool b, .bool e, .int .i64 n] := by
        cases a
        simpa using he
      exact ⟨⟨b, e, n⟩, by rw [this], h.symm⟩
    · simp at h
  · simp at h
theorem ftD_inj {f g : Ch.Ft} (h : ftD f = ftD g) : f = g := by
  obtain ⟨a, b, c⟩ := f
  obtain ⟨x, y, z⟩ := g
  simp [ftD] at h
  obtain ⟨rfl, rfl, rfl⟩ := h
  rfl
theorem Tryz.keyedF : Keyed Tryz.prog 2 := int_keyed Tryz.underlying2
theorem kF_key {t : Int} (h : 1 ≤ t ∧ t ≤ 999) : keyOf Tryz.prog 2 (.int .i64 t) = some (kF t) := keyOf_int_mk Tryz.underlying2 (WalkArith.wf_i64 (by omega))
theorem kF_isKey (t : Int) : WideAt.IsKeyLit (kF t) := by unfold kF; simp [WideAt.IsKeyLit]
theorem kF_ne {a b : Int} (h : a ≠ b) : kF a ≠ kF b := by unfold kF; simpa using h
theorem Tryz.zeroFate (w : World) : (zeroValue 84).run Tryz.prog w = .ok (.agg #[.bool false, .bool false, .int .i64 0]) w := by kernel_rfl

/-- What the map holds. -/
structure Fm (F : Int → Ch.Ft) (D : DataW Unit) : Prop where
  at' : ∀ t, D.atKey (kF t) (ftD Ch.Ft.zero) = ftD (F t)
  has : ∀ t, Maps.has D (kF t) = true → 1 ≤ t ∧ t ≤ 999
theorem Fm.empty : Fm (fun _ => Ch.Ft.zero) (.map []) := ⟨fun t => by simp [DataW.atKey], fun t h => by simp [Maps.has] at h⟩
theorem Fm.put {F : Int → Ch.Ft} {D : DataW Unit} (h : Fm F D) (hD : IsMap D) {t : Int} (ht : 1 ≤ t ∧ t ≤ 999) {f : Ch.Ft} {G : Int → Ch.Ft} (h1 : G t = f) (h2 : ∀ s, s ≠ t → G s = F s) : Fm G (D.put (kF t) (ftD f)) := by
  refine ⟨fun s => ?_, fun s hs => ?_⟩
  · by_cases e : s = t
    · subst e; rw [atKey_put_same hD (kF_isKey _), h1]
    · rw [atKey_put_other (kF_ne e), h.at', h2 s e]
  · by_cases e : s = t
    · subst e; exact ht
    · rw [has_put_other (kF_ne e)] at hs; exact h.has s hs
theorem Fm.none {F : Int → Ch.Ft} {D : DataW Unit} (h : Fm F D) {t : Int} (hn : Maps.has D (kF t) = false) : F t = Ch.Ft.zero := by
  have := h.at' t
  rw [atKey_of_not_has hn] at this
  exact (ftD_inj this).symm

/-- A look-up. -/
theorem wpList_lookF {ops : Array Oper} {rest : List Oper} {o : Oper} {a : Act} {w : World} {Q : Exit → Act → World → Prop} (m x : Operand) (B N : Nat) (D : DataW Unit) (t : Int) (fb fe : Bool) (fn : Int)
    (hop : o.op = Op.lookup 62 m x false) (hg : o.guard = none) (hm : a.eval m = .map (some B)) (hx : a.eval x = .int .i64 t) (hown : w.ownsMap Tryz.prog 2 ftElem B N D) (ht : 1 ≤ t ∧ t ≤ 999)
    (hat : D.atKey (kF t) (ftD Ch.Ft.zero) = ftD ⟨fb, fe, fn⟩) (hK : wpList Tryz.prog ops Q rest (a.put o.dst (.agg #[.bool fb, .bool fe, .int .i64 fn])) w) : wpList Tryz.prog ops Q (o :: rest) a w := by
  refine wpList_plain hg fun K' hK' => ?_
  obtain ⟨v, ps, hrun, hv⟩ := hown.lookup Tryz.keyedF Tryz.underlying62 (Tryz.zeroFate w) (ftElem_mk false false 0) (kF_key ht)
  rw [show (ftD ⟨false, false, 0⟩ : DataW Unit) = ftD Ch.Ft.zero from rfl, hat] at hv
  rw [ftElem_inv hv] at hrun
  unfold Oper.wp
  simp [execOp, hop, hm, hx, hrun, Result.andThen]
  exact hK' _ _ hK

theorem kd_five {kd : Int} (h : 1 ≤ kd ∧ kd ≤ 5) : kd = 1 ∨ kd = 2 ∨ kd = 3 ∨ kd = 4 ∨ kd = 5 := by omega

set_option linter.unusedSimpArgs false in
set_option maxRecDepth 20000 in
set_option maxHeartbeats 4000000 in
theorem fates_any (a : Option Addr) (n cap : Nat) (rs : List Ch.Rec) (w : World) (h : CellsAt w a (n * 7) (rc7 rs)) (hn : n ≤ 800) (hf : ∀ k, k < rs.length → (rs.getD k Ch.Rec.zero).fault = 0) :
    Calls Tryz.prog 33 #[.slice a n cap] w fun e w' => ∃ N D, e = .returned (.map (some w.heap.size)) ∧ N ≤ 800 ∧ w'.ownsMap Tryz.prog 2 ftElem w.heap.size N D ∧ Fm (Ch.fate rs) D ∧ Below w.heap.size w w' := by
  have HL := h.len7
  have HF := hid hf
  clear hf
  have hmm := @run_makeMap Tryz.prog
  have hmade := World.ownsMap_made w Tryz.prog 2 ftElem
  go_enter Tryz.func33, Tryz.ntmps33
  go_wp2
  go_loopw [10] (fun i wr => ∃ (k : Nat) (D : DataW Unit), k ≤ n ∧ i = .int .i64 k ∧ wr.ownsMap Tryz.prog 2 ftElem w.heap.size k D ∧ Fm (Ch.fate (rs.take k)) D ∧ Below w.heap.size w wr) (fun i _ => n - (intOf i).toNat)
  case atStart => exact ⟨0, _, Nat.zero_le _, rfl, hmade, Fm.empty, (Below.refl _ _).alloc (Nat.le_refl _) _⟩
  case round =>
    clear hmade
    obtain ⟨k, D, hk, rfl, own, hP, hB⟩ := hrel
    by_cases hlt : k < n
    · have hkl : k < rs.length := by have := HL.out; omega
      have HT := hid (Ch.Rec.fit (HF.out k hkl))
      have HS := hid (Ch.fate_same (rs := rs) hkl)
      have HO := hid (fun t (ht : t ≠ (rs.getD k Ch.Rec.zero).tx) => Ch.fate_other (rs := rs) hkl ht)
      have HPT := hid (fun t => hP.at' t)
      have HBK := hid (fun t => Ch.fate_bk (rs.take k) t)
      have HTL : Hid ((rs.take k).length ≤ k) := by show _ ≤ _; simp; omega
      have HPP := hid (fun t ht f h1 h2 => hP.put (t := t) own.isMap ht (f := f) (G := Ch.fate (rs.take (k + 1))) h1 h2)
      clear hP
      obtain ⟨b, off, rfl, q0, q1, q2, q3, q4, q5, q6⟩ := (h.below hB).rec hlt
      have hbl := lt_of_cell q0
      generalize rs.getD k Ch.Rec.zero = r at *
      obtain ⟨kd, tx, ky, hd, ol, hs, nw⟩ := r
      simp only at q0 q1 q2 q3 q4 q5 q6 HS HO
      have htx : 1 ≤ tx ∧ tx ≤ 999 := HT.out.tx
      have hkd := kd_five HT.out.kd
      replace HPT := hid (HPT.out tx)
      replace HBK := hid (HBK.out tx)
      replace HPP := hid (fun f h1 h2 => HPP.out tx htx f h1 h2)
      generalize Ch.fate (rs.take k) tx = F at *
      obtain ⟨fb, fe, fn⟩ := F
      have hfn : 0 ≤ fn ∧ fn ≤ 1000 := by have h1 := HBK.out; have h2 := HTL.out; simp only at h1; omega
      have hat : D.atKey (kF tx) (ftD Ch.Ft.zero) = ftD ⟨fb, fe, fn⟩ := HPT.out
      have hkey := kF_key htx
      have hmx : k < maxLen := by unfold maxLen; omega
      have hws := hB.size
      clear HT HBK HTL HF
      rcases hkd with rfl | rfl | rfl | rfl | rfl
      · have HQ := hid (HPP.out ⟨true, fe, fn⟩ HS.out HO.out)
        clear HPP HS HO
        have own3 := ((own.alloc (.cells #[.int .i64 1, .int .i64 tx, .int .i64 ky, .bool hd, .int .i64 ol, .bool hs, .int .i64 nw] 54)).alloc (.cells #[.bool true, .bool fe, .int .i64 fn] 84))
        have b3 := ((hB.alloc hB.size (.cells #[.int .i64 1, .int .i64 tx, .int .i64 ky, .bool hd, .int .i64 ol, .bool hs, .int .i64 nw] 54)).alloc (by simp; omega) (.cells #[.bool true, .bool fe, .int .i64 fn] 84))
        go_wp2_with (first | (at_lookup; go_must (refine wpList_lookF _ _ w.heap.size k D tx fb fe fn rfl rfl rfl rfl (own.alloc _) htx hat ?_)) | (at_mapUpdate; go_must (refine wpList_mapUpdate_own _ rfl _ _ _ 62 rfl 2 84 Tryz.keyedF Tryz.underlying62 ftElem w.heap.size k D rfl own3 hmx _ _ _ rfl rfl hkey _ [] (ftElem_mk (true) (fe) (fn)) ?_; intro w1 own1 gr1)))
        go_roundw
        case rel => exact ⟨k + 1, _, by omega, by go_num, own1, HQ.out, b3.grown gr1 b3.size (fun j hj => by cases hj; exact Nat.le_refl _)⟩
        case measure => simp [intOf]; omega
      · have HQ := hid (HPP.out ⟨fb, fe, fn⟩ HS.out HO.out)
        clear HPP HS HO
        have own3 := ((own.alloc (.cells #[.int .i64 2, .int .i64 tx, .int .i64 ky, .bool hd, .int .i64 ol, .bool hs, .int .i64 nw] 54)).alloc (.cells #[.bool fb, .bool fe, .int .i64 fn] 84))
        have b3 := ((hB.alloc hB.size (.cells #[.int .i64 2, .int .i64 tx, .int .i64 ky, .bool hd, .int .i64 ol, .bool hs, .int .i64 nw] 54)).alloc (by simp; omega) (.cells #[.bool fb, .bool fe, .int .i64 fn] 84))
        go_wp2_with (first | (at_lookup; go_must (refine wpList_lookF _ _ w.heap.size k D tx fb fe fn rfl rfl rfl rfl (own.alloc _) htx hat ?_)) | (at_mapUpdate; go_must (refine wpList_mapUpdate_own _ rfl _ _ _ 62 rfl 2 84 Tryz.keyedF Tryz.underlying62 ftElem w.heap.size k D rfl own3 hmx _ _ _ rfl rfl hkey _ [] (ftElem_mk (fb) (fe) (fn)) ?_; intro w1 own1 gr1)))
        go_roundw
        case rel => exact ⟨k + 1, _, by omega, by go_num, own1, HQ.out, b3.grown gr1 b3.size (fun j hj => by cases hj; exact Nat.le_refl _)⟩
        case measure => simp [intOf]; omega
      · have HQ := hid (HPP.out ⟨fb, fe, fn + 1⟩ HS.out HO.out)
        clear HPP HS HO
        have own3 := ((own.alloc (.cells #[.int .i64 3, .int .i64 tx, .int .i64 ky, .bool hd, .int .i64 ol, .bool hs, .int .i64 nw] 54)).alloc (.cells #[.bool fb, .bool fe, .int .i64 (fn + 1)] 84))
        have b3 := ((hB.alloc hB.size (.cells #[.int .i64 3, .int .i64 tx, .int .i64 ky, .bool hd, .int .i64 ol, .bool hs, .int .i64 nw] 54)).alloc (by simp; omega) (.cells #[.bool fb, .bool fe, .int .i64 (fn + 1)] 84))
        go_wp2_with (first | (at_lookup; go_must (refine wpList_lookF _ _ w.heap.size k D tx fb fe fn rfl rfl rfl rfl (own.alloc _) htx hat ?_)) | (at_mapUpdate; go_must (refine wpList_mapUpdate_own _ rfl _ _ _ 62 rfl 2 84 Tryz.keyedF Tryz.underlying62 ftElem w.heap.size k D rfl own3 hmx _ _ _ rfl rfl hkey _ [] (ftElem_mk (fb) (fe) (fn + 1)) ?_; intro w1 own1 gr1)))
        go_roundw
        case rel => exact ⟨k + 1, _, by omega, by go_num, own1, HQ.out, b3.grown gr1 b3.size (fun j hj => by cases hj; exact Nat.le_refl _)⟩
        case measure => simp [intOf]; omega
      · have HQ := hid (HPP.out ⟨fb, true, fn⟩ HS.out HO.out)
        clear HPP HS HO
        have own3 := ((own.alloc (.cells #[.int .i64 4, .int .i64 tx, .int .i64 ky, .bool hd, .int .i64 ol, .bool hs, .int .i64 nw] 54)).alloc (.cells #[.bool fb, .bool true, .int .i64 fn] 84))
        have b3 := ((hB.alloc hB.size (.cells #[.int .i64 4, .int .i64 tx, .int .i64 ky, .bool hd, .int .i64 ol, .bool hs, .int .i64 nw] 54)).alloc (by simp; omega) (.cells #[.bool fb, .bool true, .int .i64 fn] 84))
        go_wp2_with (first | (at_lookup; go_must (refine wpList_lookF _ _ w.heap.size k D tx fb fe fn rfl rfl rfl rfl (own.alloc _) htx hat ?_)) | (at_mapUpdate; go_must (refine wpList_mapUpdate_own _ rfl _ _ _ 62 rfl 2 84 Tryz.keyedF Tryz.underlying62 ftElem w.heap.size k D rfl own3 hmx _ _ _ rfl rfl hkey _ [] (ftElem_mk (fb) (true) (fn)) ?_; intro w1 own1 gr1)))
        go_roundw
        case rel => exact ⟨k + 1, _, by omega, by go_num, own1, HQ.out, b3.grown gr1 b3.size (fun j hj => by cases hj; exact Nat.le_refl _)⟩
        case measure => simp [intOf]; omega
      · have HQ := hid (HPP.out ⟨fb, true, fn⟩ HS.out HO.out)
        clear HPP HS HO
        have own3 := ((own.alloc (.cells #[.int .i64 5, .int .i64 tx, .int .i64 ky, .bool hd, .int .i64 ol, .bool hs, .int .i64 nw] 54)).alloc (.cells #[.bool fb, .bool true, .int .i64 fn] 84))
        have b3 := ((hB.alloc hB.size (.cells #[.int .i64 5, .int .i64 tx, .int .i64 ky, .bool hd, .int .i64 ol, .bool hs, .int .i64 nw] 54)).alloc (by simp; omega) (.cells #[.bool fb, .bool true, .int .i64 fn] 84))
        go_wp2_with (first | (at_lookup; go_must (refine wpList_lookF _ _ w.heap.size k D tx fb fe fn rfl rfl rfl rfl (own.alloc _) htx hat ?_)) | (at_mapUpdate; go_must (refine wpList_mapUpdate_own _ rfl _ _ _ 62 rfl 2 84 Tryz.keyedF Tryz.underlying62 ftElem w.heap.size k D rfl own3 hmx _ _ _ rfl rfl hkey _ [] (ftElem_mk (fb) (true) (fn)) ?_; intro w1 own1 gr1)))
        go_roundw
        case rel => exact ⟨k + 1, _, by omega, by go_num, own1, HQ.out, b3.grown gr1 b3.size (fun j hj => by cases hj; exact Nat.le_refl _)⟩
        case measure => simp [intOf]; omega
    · obtain rfl : k = n := by omega
      have HWF : Hid (rs.take k = rs) := by have := HL.out; show _ = _; rw [this]; exact List.take_length
      rw [HWF.out] at hP
      go_wp2
      go_ret
      exact ⟨k, D, rfl, hn, own, hP, hB⟩
end Go.Proofs.YtoijjjckdggglaaGreat
