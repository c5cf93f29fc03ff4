/- Several texts in one: RecW, Cln0, SetI, SetV, SetS, BckI, BckD, BckT, UndS, MrgM, FillI, SameI, LvsN, SetsL, Open. -/
import Derived.Test.YthfanfnbjldddaaSmall
import Derived.Test.YthfanfnbjldddaaRecM
import Derived.Test.YthfanfnbjldddaaCopyW
import Derived.Maps.AppendAt
import Derived.Lib.AppendZeros
import Derived.Test.YthfanfnbjldddaaSetM
import Derived.Test.YthfanfnbjldddaaMz0
import Derived.Defers
import Derived.Recover
import Derived.Deep.DeepCutAuto
import Derived.Test.YthfanfnbjldddaaGoodM
import Derived.Test.YthfanfnbjldddaaAllI
import Derived.BigQuiet
import Derived.Laws.StructEq
import Derived.Test.YthfanfnbjldddaaLvsM
import Derived.Test.YthfanfnbjldddaaFindI
import Derived.Test.YthfanfnbjldddaaDrwS
import Derived.Test.YthfanfnbjldddaaProg
import Derived.Test.YthfanfnbjldddaaBase
import Derived.ProofKit
import Derived.OpenShut
import Derived.ChangeOld
import Derived.Lib.SmallJoins
import Derived.Deep.Fields


/- Walks of the functions on one record: its copy, its fault (of the program and of the model). -/
namespace Go.Proofs.Ythfanfnbjldddaa
open Go.RowKit

theorem l2Txn_any (v : Int) (w : World) :
    Calls Try.prog 62 #[.int .i64 v] w fun e w' => e = .returned (.bool (Ch.inB v 1 999)) ∧ w' = w := by
  go_enter Try.func62, Try.ntmps62
  go_wp2_with (go_at_call 108; refine (in_any _ _ _ _).mono ?_; rintro e w' ⟨rfl, rfl⟩)
  go_ret
  exact ⟨rfl, rfl⟩

theorem isTxn_any (v : Int) (w : World) :
    Calls Try.prog 77 #[.int .i64 v] w fun e w' => e = .returned (.bool (Ch.inB v 1 999)) ∧ w' = w := by
  unfold Ch.inB
  by_cases h1 : 1 ≤ v
  all_goals by_cases h2 : v ≤ 999
  all_goals
    go_enter Try.func77, Try.ntmps77
    go_wp2
    go_ret
    exact ⟨by simp [h1, h2], rfl⟩

theorem tells_any (v : Int) (w : World) :
    Calls Try.prog 78 #[.int .i64 v] w fun e w' => e = .returned (.bool (Ch.sets v)) ∧ w' = w := by
  unfold Ch.sets
  cases h1 : (v == 2)
  all_goals
    go_enter Try.func78, Try.ntmps78
    go_wp2
    go_ret
    exact ⟨by simp, rfl⟩

end Go.Proofs.Ythfanfnbjldddaa


/- Leaves that are none, copied. -/
namespace Go.Proofs.Ythfanfnbjldddaa
open Go.RowKit

theorem wpList_app0 {ops : Array Oper} {rest : List Oper} {o : Oper} {a : Act} {w : World} {Q : Exit → Act → World → Prop} (s x : Operand)
    (B : Nat) (v : Value) (n : Nat) (xs : List Value) (ad : Addr) (c : Nat) (hn : n ≤ 2097152)
    (ho : o.op = .call { callee := .builtin .append, args := #[s, x], argTypes := #[24, 24] }) (hgd : o.guard = none)
    (hs : a.eval s = v) (hx : a.eval x = .slice (some ad) 0 c) (hown : w.ownsRow B 107 1 v n xs) (hbase : B ≤ w.heap.size)
    (hK : ∀ a' c' w', w'.ownsRow B 107 1 (.slice a' n c') n xs → w.grownBy w' v.ownBlock → wpList Try.prog ops Q rest (a.put o.dst (.slice a' n c')) w') :
    wpList Try.prog ops Q (o :: rest) a w := by
  obtain ⟨i0, hi, hz0, hz1, hz2⟩ := info_parts Try.info107
  obtain ⟨v', w', hr, h2, h3, _, h5⟩ := run_append_own_at (P := Try.prog) w B 24 o.type 107 i0 _ 1 24 Try.underlying24 hi hz0 hz1 hz2 rfl (by omega) v n xs hown ad 0 c [] rfl (fun j u hj => by simp at hj) (fun u hu => by cases hu) (by unfold maxLen; omega) (by omega) hbase
  obtain ⟨a', c', rfl⟩ := owns_shape h2
  rw [List.append_nil] at h2
  exact Lib.wpList_append_run w hgd s x 24 24 ho _ _ hs hx _ _ hr (hK a' c' w' h2 h3)

set_option maxHeartbeats 400000 in
theorem cloneLeaf0_any (a : Option Addr) (cap : Nat) (w : World) :
    Calls Try.prog 132 #[.slice a 0 cap] w fun e w' => ∃ a' c', e = .returned (.slice a' 0 c') ∧ w'.ownsRow w.heap.size 107 1 (.slice a' 0 c') 0 [] ∧ Below w.heap.size w w' := by
  have hnil := fun W => Lib.run_eql_slice_nil (P := Try.prog) W 24 107 a 0 cap 0 0 Try.underlying24
  cases a with
  | none =>
    simp only [Option.isNone_none] at hnil
    go_enter Try.func132, Try.ntmps132
    go_wp2
    go_ret
    exact ⟨none, 0, rfl, World.ownsRow_nil _ _ _ _, Below.refl _ _⟩
  | some ad =>
    simp only [Option.isNone_some] at hnil
    have hb0 : Below w.heap.size w (w.alloc (.cells #[] 107)) := (Below.refl _ _).alloc (Nat.le_refl _) _
    have ho := empty_leaves w w.heap.size (Nat.le_refl _)
    go_enter Try.func132, Try.ntmps132
    go_wp2_with (at_builtin; go_must (refine wpList_app0 (.tmp 5) (.tmp 6) w.heap.size (.slice (some ⟨w.heap.size, 0, none⟩) 0 0) 0 [] ad cap (by omega) ?_ ?_ ?_ ?_ ho ?_ ?_; exact rfl; exact rfl; exact rfl; exact rfl; (focus (simp; done)); intro a1 c1 w1 own1 gr1))
    go_ret
    exact ⟨a1, c1, rfl, own1, hb0.grown gr1 (by simp) (fun k hk => by simp [Value.ownBlock] at hk; omega)⟩

set_option maxHeartbeats 800000 in
theorem cloneLeavesAll_any (a : Option Addr) (n cap : Nat) (ls : List (List Ch.Row)) (w : World) (h : LvAt w a n ls) (hs : Ch.lvSize ls ≤ 1048576) (hg : ∀ k, k < n → (ls.getD k []).length ≠ 0) :
    Calls Try.prog 106 #[.slice a n cap] w fun e w' => ∃ a' c', e = .returned (.slice a' n c') ∧ OwnLv w' w.heap.size (.slice a' n c') n ls ∧ Below w.heap.size w w' := by
  by_cases hn0 : 0 < n
  · refine (cloneLeaves_any a n cap ls w h hs hg hn0).mono ?_
    rintro e w1 ⟨g, c', rfl, o1, b1⟩
    exact ⟨_, c', rfl, o1, b1⟩
  · obtain rfl : n = 0 := by omega
    have hl : ls = [] := List.eq_nil_of_length_eq_zero h.len.out.symm
    subst hl
    go_enter Try.func106, Try.ntmps106
    go_wp2_with fail
    refine (cloneLeaf0_any a cap _).mono ?_
    rintro e w1 ⟨a1, c1, rfl, o1, b1⟩
    go_wp2
    go_loopw [10] (fun i wr => i = .int .i64 0 ∧ wr = w1) (fun _ _ => 0)
    case atStart => exact ⟨rfl, rfl⟩
    case round =>
      obtain ⟨rfl, rfl⟩ := hrel
      go_wp2
      go_ret
      exact ⟨a1, c1, rfl, ⟨rfl, [], o1, fun i hi => absurd hi (by omega), fun i j x y g _ hx => by simp at hx, fun i x g hx => by simp at hx⟩, b1⟩
end Go.Proofs.Ythfanfnbjldddaa


/- SetValue of the program. -/
namespace Go.Proofs.Ythfanfnbjldddaa
open Go.RowKit

/-- Leaves and records, apart: the leaves lie from lo to hi, the records don't. -/
def OwnU (w : World) (B : Nat) (lv : Value) (m : Nat) (ls : List (List Ch.Row)) (rv : Value) (p : Nat) (rs : List Ch.Rec) : Prop :=
  ∃ vs lo hi, OwnV w B lv m vs ls ∧ w.ownsRow B 41 7 rv p (rc7 rs) ∧ B ≤ lo ∧ hi ≤ w.heap.size ∧ (∀ g, lv.ownBlock = some g → lo ≤ g ∧ g < hi) ∧ (∀ (i : Nat) (x : Value) (g : Nat), vs[i]? = some x → x.ownBlock = some g → lo ≤ g ∧ g < hi) ∧ (∀ g, rv.ownBlock = some g → g < lo ∨ hi ≤ g)
theorem OwnU.below {w w' : World} {B m p : Nat} {lv rv : Value} {ls : List (List Ch.Row)} {rs : List Ch.Rec} (h : OwnU w B lv m ls rv p rs) (hb : Below w.heap.size w w') : OwnU w' B lv m ls rv p rs := by
  obtain ⟨vs, lo, hi, h1, h2, h3, h4, h5⟩ := h
  exact ⟨vs, lo, hi, h1.below hb, owns_below h2 hb, h3, Nat.le_trans h4 hb.size, h5⟩
theorem OwnU.base {w : World} {B B' m p : Nat} {lv rv : Value} {ls : List (List Ch.Row)} {rs : List Ch.Rec} (h : OwnU w B lv m ls rv p rs) (hb : B' ≤ B) : OwnU w B' lv m ls rv p rs := by
  obtain ⟨vs, lo, hi, h1, h2, h3, h4, h5⟩ := h
  exact ⟨vs, lo, hi, h1.base hb, owns_base h2 hb, Nat.le_trans hb h3, h4, h5⟩
theorem OwnU.none (w : World) (B : Nat) : OwnU w B (.slice none 0 0) 0 [] (.slice none 0 0) 0 [] := by
  refine ⟨[], B, 0, ⟨rfl, World.ownsRow_nil _ _ _ _, fun i hi => absurd hi (by omega), fun i j x y g _ hx => by simp at hx, fun i x g hx => by simp at hx⟩, World.ownsRow_nil _ _ _ _, Nat.le_refl _, Nat.zero_le _, fun g hg => by simp [Value.ownBlock] at hg, fun i x g hx => by simp at hx, fun g hg => by simp [Value.ownBlock] at hg⟩
theorem OwnU.len {w : World} {B m p : Nat} {lv rv : Value} {ls : List (List Ch.Row)} {rs : List Ch.Rec} (h : OwnU w B lv m ls rv p rs) : m = ls.length ∧ p = rs.length := by
  obtain ⟨vs, lo, hi, h1, h2, _⟩ := h
  refine ⟨h1.1.symm, ?_⟩
  have := h2.1
  rw [rc7_len] at this
  omega
theorem OwnU.lv {w : World} {B m p cap : Nat} {a : Option Addr} {rv : Value} {ls : List (List Ch.Row)} {rs : List Ch.Rec} (h : OwnU w B (.slice a m cap) m ls rv p rs) (hs : Ch.lvSize ls ≤ 1048576) : LvAt w a m ls := by
  obtain ⟨vs, lo, hi, h1, _⟩ := h
  exact h1.own.at (small_at hs)
theorem OwnU.rc {w : World} {B m p q : Nat} {r : Option Addr} {lv : Value} {ls : List (List Ch.Row)} {rs : List Ch.Rec} (h : OwnU w B lv m ls (.slice r p q) p rs) : CellsAt w r (p * 7) (rc7 rs) := by
  obtain ⟨vs, lo, hi, _, h2, _⟩ := h
  exact owns_cells h2
/-- One record that was just made, behind the leaves. -/
theorem own_rec {W : World} {B H : Nat} (r : Ch.Rec) (hH : H = W.heap.size) (hB : B ≤ W.heap.size) : (W.alloc (.cells #[.int .i64 r.kd, .int .i64 r.tx, .int .i64 r.ky, .bool r.hd, .int .i64 r.ol, .bool r.hs, .int .i64 r.nw] 41)).ownsRow B 41 7 (.slice (some ⟨H, 0, none⟩) 1 1) 1 (rc7 [r]) := by
  subst hH
  exact World.ownsRow_lit W #[.int .i64 r.kd, .int .i64 r.tx, .int .i64 r.ky, .bool r.hd, .int .i64 r.ol, .bool r.hs, .int .i64 r.nw] 1 hB (by unfold maxLen; omega) rfl
theorem OwnV.apart {w : World} {B m H : Nat} {lv : Value} {vs : List Value} {ls : List (List Ch.Row)} (h : OwnV w B lv m vs ls) (hH : w.heap.size ≤ H) : lv.ownBlock ≠ some H ∧ ∀ (i : Nat) (x : Value), vs[i]? = some x → x.ownBlock ≠ some H := by
  refine ⟨fun hb => ?_, fun i x hx hb => ?_⟩
  · have := (owns_lt h.2.1 H hb).2; omega
  · have := (h.lt i x H hx hb).2; omega

set_option maxHeartbeats 400000 in
theorem setFault_any (a : Option Addr) (n cap : Nat) (tx : Int) (ab : Option Addr) (nb cb : Nat) (ls : List (List Ch.Row)) (bs : List Ch.Bf) (w : World) (h : LvAt w a n ls) (hs : Ch.lvSize ls ≤ 1048576) (hb : CellsAt w ab (nb * 3) (bfcells bs)) (hnb : nb ≤ 1048576) :
    Calls Try.prog 59 #[.slice a n cap, .int .i64 tx, .slice ab nb cb] w fun e w' => e = .returned (.int .i64 (Ch.setF ls tx bs)) ∧ Below w.heap.size w w' := by
  have LI := fun W hW => implLeaves_any a n cap ls W hW hs
  have BI := fun W hW => implBefores_any ab nb cb bs W hW hnb
  have IT := fun W => isTxn_any tx W
  have HR : Hid (Ch.setF ls tx bs = if Ch.leavesFault ls != 0 then Ch.leavesFault ls else if Ch.inB tx 1 999 then Ch.befFault bs else 3) := rfl
  generalize Ch.leavesFault ls = c at *
  generalize Ch.befFault bs = d at *
  by_cases h0 : c = 0
  · subst h0
    cases ht : Ch.inB tx 1 999
    · rw [ht] at IT HR
      go_enter Try.func59, Try.ntmps59
      go_wp2_with fail
      refine (LI _ h).mono ?_
      rintro e w1 ⟨rfl, b1⟩
      go_wp2_with (go_at_call 77; refine (IT _).mono ?_; rintro e w' ⟨rfl, rfl⟩)
      go_ret
      exact ⟨ret_int HR.out.symm, b1⟩
    · rw [ht] at IT HR
      go_enter Try.func59, Try.ntmps59
      go_wp2_with fail
      refine (LI _ h).mono ?_
      rintro e w1 ⟨rfl, b1⟩
      go_wp2_with fail
      refine (IT _).mono ?_
      rintro e w' ⟨rfl, rfl⟩
      go_wp2_with fail
      refine (BI _ (hb.below b1)).mono ?_
      rintro e w2 ⟨rfl, b2⟩
      go_wp2
      go_ret
      exact ⟨ret_int HR.out.symm, b1.trans (b2.mono b1.size)⟩
  · have hc : (c != 0) = true := by simpa using h0
    rw [hc] at HR
    go_enter Try.func59, Try.ntmps59
    go_wp2_with fail
    refine (LI _ h).mono ?_
    rintro e w1 ⟨rfl, b1⟩
    go_wp2
    go_ret
    exact ⟨ret_int HR.out.symm, b1⟩


set_option linter.unusedSimpArgs false in
set_option maxHeartbeats 2000000 in
theorem putValue_any (a : Option Addr) (n cap : Nat) (key : Int) (has : Bool) (v : Int) (ls : List (List Ch.Row)) (w : World) (h : LvAt w a n ls) (hg : Ch.leavesFault ls = 0) (hk : Ch.inB key 0 99 = true) (hv : Ch.inB v 0 9999 = true) :
    Calls Try.prog 60 #[.slice a n cap, .int .i64 key, .bool has, .int .i64 v] w fun e w' => ∃ a' m c', e = .returned (.agg #[.int .i64 (Ch.setLs ls key has v).1, .slice a' m c']) ∧ OwnLv w' w.heap.size (.slice a' m c') m (Ch.setLs ls key has v).2 ∧ Below w.heap.size w w' := by
  have hs := Ch.good_size hg
  have b0 : Below w.heap.size w (w.alloc (.cells #[.int .i64 0, .slice none 0 0] 97)) := (Below.refl _ _).alloc (Nat.le_refl _) _
  have PI := fun W rv rg hW => implPutRow_any a n cap ls key rv rg W hW hs
  cases has
  · have FI := fun W hW => implFindRow_any a n cap key ls W hW hs
    have hfd : ∀ (x : Int) (y : Value) W, (Instr.field 44 (.agg #[.int .i64 x, y]) 0).run Try.prog W = .ok (.int .i64 x) W := fun _ _ _ => by kernel_rfl
    have ha := Ch.asked_of hg hk
    cases hf : Ch.findR ls key with
    | none =>
      rw [Ch.setLs_none hf]
      rw [Ch.findRR_none (by rw [ha]; rfl) hf] at FI
      have CI := fun W hW => cloneLeavesAll_any a n cap ls W hW hs (good_leaves (key := key) h.len.out (by rw [ha]; rfl))
      clear PI ha hf
      go_enter Try.func60, Try.ntmps60
      go_wp2_with fail
      refine (FI _ (h.below b0)).mono ?_
      rintro e w1 ⟨a1, m1, c1, rfl, hm1, own1, b1⟩
      obtain ⟨x0, x1, f0, f1⟩ := two_box b1
      have hz := lt_of_cell x0
      have bE := b0.trans (b1.mono b0.size)
      clear FI own1 b1
      go_wp2_with fail
      refine (CI _ (h.below bE)).mono ?_
      rintro e w2 ⟨a2, c2, rfl, own2, b2⟩
      replace x0 := keep_cell b2 x0
      replace x1 := keep_cell b2 x1
      replace f0 := ((bcell b2).2 w.heap.size 0 hz).trans f0
      replace f1 := ((bcell b2).2 w.heap.size 1 hz).trans f1
      have bF := bE.trans (b2.mono bE.size)
      obtain ⟨vs, own2⟩ := own2.told
      have st := (own2.store (p := w.heap.size) (o := 0) (u := .int .i64 0) (fun g hg => by have := (owns_lt own2.2.1 g hg).1; omega) (fun i x g hx hg => by have := (own2.lt i x g hx hg).1; omega)).store (p := w.heap.size) (o := 1) (u := .slice a2 n c2) (fun g hg => by have := (owns_lt own2.2.1 g hg).1; omega) (fun i x g hx hg => by have := (own2.lt i x g hx hg).1; omega)
      go_wp2
      exact bodyPost_ret (v := .agg #[.int .i64 0, .slice a2 n c2]) (by simp [results, Try.results60, go_sem, x0, x1]) rfl ⟨a2, n, c2, rfl, (st.base bE.size).own, (bF.setCell (p := ⟨w.heap.size, 0, none⟩) (Nat.le_refl _) _).setCell (p := ⟨w.heap.size, 1, none⟩) (Nat.le_refl _) _⟩
    | some r =>
      have hi : (Ch.findR ls key).isSome = true := by rw [hf]; rfl
      rw [Ch.setLs_ghost hg hk hi]
      rw [Ch.findRR_some (by rw [ha]; rfl) hf] at FI
      replace PI := fun W hW => PI W 0 true hW
      generalize Ch.putR ls ⟨key, 0, true⟩ = X at *
      obtain ⟨c, rl⟩ := X
      clear ha hf hi
      go_enter Try.func60, Try.ntmps60
      go_wp2_with fail
      refine (FI _ (h.below b0)).mono ?_
      rintro e w1 ⟨a1, m1, c1, rfl, hm1, own1, b1⟩
      obtain ⟨x0, x1, f0, f1⟩ := two_box b1
      have hz := lt_of_cell x0
      have bE := b0.trans (b1.mono b0.size)
      clear FI own1 b1
      go_wp2_with fail
      refine (PI _ (h.below bE)).mono ?_
      rintro e w2 ⟨a2, m2, c2, rfl, own2, b2⟩
      replace x0 := keep_cell b2 x0
      replace x1 := keep_cell b2 x1
      replace f0 := ((bcell b2).2 w.heap.size 0 hz).trans f0
      replace f1 := ((bcell b2).2 w.heap.size 1 hz).trans f1
      have bF := bE.trans (b2.mono bE.size)
      obtain ⟨vs, own2⟩ := own2.told
      have st := (own2.store (p := w.heap.size) (o := 0) (u := .int .i64 c) (fun g hg => by have := (owns_lt own2.2.1 g hg).1; omega) (fun i x g hx hg => by have := (own2.lt i x g hx hg).1; omega)).store (p := w.heap.size) (o := 1) (u := .slice a2 m2 c2) (fun g hg => by have := (owns_lt own2.2.1 g hg).1; omega) (fun i x g hx hg => by have := (own2.lt i x g hx hg).1; omega)
      go_wp2
      exact bodyPost_ret (v := .agg #[.int .i64 c, .slice a2 m2 c2]) (by simp [results, Try.results60, go_sem, x0, x1]) rfl ⟨a2, m2, c2, rfl, (st.base bE.size).own, (bF.setCell (p := ⟨w.heap.size, 0, none⟩) (Nat.le_refl _) _).setCell (p := ⟨w.heap.size, 1, none⟩) (Nat.le_refl _) _⟩
  · rw [Ch.setLs_has hg hk hv]
    replace PI := fun W hW => PI W v false hW
    generalize Ch.putR ls ⟨key, v, false⟩ = X at *
    obtain ⟨c, rl⟩ := X
    go_enter Try.func60, Try.ntmps60
    go_wp2_with fail
    refine (PI _ (h.below b0)).mono ?_
    rintro e w2 ⟨a2, m2, c2, rfl, own2, b2⟩
    obtain ⟨x0, x1, f0, f1⟩ := two_box b2
    have hz := lt_of_cell x0
    have bF := b0.trans (b2.mono b0.size)
    obtain ⟨vs, own2⟩ := own2.told
    have hbs : w.heap.size < (w.alloc (.cells #[.int .i64 0, .slice none 0 0] 97)).heap.size := by simp
    have st := (own2.store (p := w.heap.size) (o := 0) (u := .int .i64 c) (fun g hg => by have := (owns_lt own2.2.1 g hg).1; omega) (fun i x g hx hg => by have := (own2.lt i x g hx hg).1; omega)).store (p := w.heap.size) (o := 1) (u := .slice a2 m2 c2) (fun g hg => by have := (owns_lt own2.2.1 g hg).1; omega) (fun i x g hx hg => by have := (own2.lt i x g hx hg).1; omega)
    go_wp2
    exact bodyPost_ret (v := .agg #[.int .i64 c, .slice a2 m2 c2]) (by simp [results, Try.results60, go_sem, x0, x1]) rfl ⟨a2, m2, c2, rfl, (st.base b0.size).own, (bF.setCell (p := ⟨w.heap.size, 0, none⟩) (Nat.le_refl _) _).setCell (p := ⟨w.heap.size, 1, none⟩) (Nat.le_refl _) _⟩
end Go.Proofs.Ythfanfnbjldddaa


/- SetValue: the program's and the model's. -/
namespace Go.Proofs.Ythfanfnbjldddaa
open Go.RowKit

/-- One before that was just made, as a list of one. -/
theorem new_bef {w : World} {r : Ch.Bf} {t : TypeId} {H : Nat} (hH : H = w.heap.size) : CellsAt (w.alloc (.cells #[.int .i64 r.k, .bool r.h, .int .i64 r.v] t)) (some ⟨H, 0, none⟩) (1 * 3) (bfcells [r]) := by
  subst hH
  refine ⟨rfl, fun _ => ⟨_, _, rfl, fun i hi => ?_⟩⟩
  rw [Nat.zero_add]
  have := cell_of_row (w.alloc (.cells #[.int .i64 r.k, .bool r.h, .int .i64 r.v] t)) _ i _ _ _ (heap_alloc_new w _)
  rw [this]
  simp [bfcells]
theorem OwnV.store3 {w : World} {B m : Nat} {lv : Value} {vs : List Value} {ls : List (List Ch.Row)} (h : OwnV w B lv m vs ls) {q o : Nat} (hq : q < B) (u : Value) : OwnV (w.setCell ⟨q, o, Option.none⟩ u) B lv m vs ls :=
  h.store (fun g hg => by have := (owns_lt h.2.1 g hg).1; omega) (fun i x g hx hg => by have := (h.lt i x g hx hg).1; omega)
/-- A record that is made behind leaves. -/
theorem OwnU.make {W W' : World} {B H m : Nat} {lv : Value} {vs : List Value} {ls : List (List Ch.Row)} (own : OwnV W B lv m vs ls) (k : Below W.heap.size W W') (r : Ch.Rec) (hH : H = W'.heap.size) (hB : B ≤ W.heap.size) :
    OwnU (W'.alloc (.cells #[.int .i64 r.kd, .int .i64 r.tx, .int .i64 r.ky, .bool r.hd, .int .i64 r.ol, .bool r.hs, .int .i64 r.nw] 41)) B lv m ls (.slice (some ⟨H, 0, Option.none⟩) 1 1) 1 [r] := by
  refine ⟨vs, B, W.heap.size, (own.below k).below ((Below.refl _ _).alloc (Nat.le_refl _) _), own_rec r hH (Nat.le_trans hB k.size), Nat.le_refl _, by have := k.size; simp; omega, owns_lt own.2.1, own.lt, fun g hg => ?_⟩
  simp [Value.ownBlock] at hg
  subst hg
  exact .inr (by rw [hH]; exact k.size)

set_option linter.unusedSimpArgs false in
set_option maxHeartbeats 4000000 in
theorem implSetValue_any (a : Option Addr) (n cap : Nat) (tx key : Int) (has : Bool) (v : Int) (ls : List (List Ch.Row)) (w : World) (h : LvAt w a n ls) (hs : Ch.lvSize ls ≤ 1048576) :
    Calls Try.prog 13 #[.slice a n cap, .int .i64 tx, .int .i64 key, .bool has, .int .i64 v] w fun e w' => ∃ a' m c' r p q, e = .returned (.agg #[.int .i64 (Ch.setR ls tx key has v).1, .slice a' m c', .slice r p q]) ∧ OwnU w' w.heap.size (.slice a' m c') m (Ch.setR ls tx key has v).2.1 (.slice r p q) p (Ch.setR ls tx key has v).2.2 ∧ Below w.heap.size w w' := by
  have b0 : ∀ t, Below w.heap.size w ((w.alloc (.cells #[.int .i64 0, .slice none 0 0, .slice none 0 0] 29)).alloc (.cells #[.int .i64 key, .bool has, .int .i64 v] t)) := fun t => Below.alloc (Below.alloc (Below.refl _ w) (Nat.le_refl _) _) (by simp) _
  have nb := fun t => new_bef (w := w.alloc (.cells #[.int .i64 0, .slice none 0 0, .slice none 0 0] 29)) (r := ⟨key, has, v⟩) (t := t) (H := w.heap.size + 1) (by simp)
  have FI := fun ab nb cb W hW hb hn => setFault_any a n cap tx ab nb cb ls [⟨key, has, v⟩] W hW hs hb hn
  obtain ⟨c, HC⟩ : ∃ c, Hid (Ch.setF ls tx [⟨key, has, v⟩] = c) := ⟨_, rfl⟩
  rw [HC.out] at FI
  by_cases h0 : c = 0
  · subst h0
    obtain ⟨hg, _, hk, hv, _⟩ := Ch.setF_zero HC.out
    have PI := fun W hW => putValue_any a n cap key has v ls W hW hg hk hv
    have BI := fun W hW => implBeforeOf_any a n cap key ls W hW hs
    rw [Ch.bfOf_ok (by rw [Ch.asked_of hg hk]; rfl)] at BI
    have HR : Hid (Ch.setRec 2 ls tx key has v = ⟨2, tx, key, (Ch.bf key (Ch.has ls key)).h, (Ch.bf key (Ch.has ls key)).v, has, v⟩) := rfl
    have HX1 := hid (fun c hs hc => Ch.setR_many (c := c) HC.out hs hc)
    have HX0 := hid (fun hs => Ch.setR_ok HC.out hs)
    generalize Ch.bf key (Ch.has ls key) = bb at *
    generalize Ch.setRec 2 ls tx key has v = rr at *
    generalize Ch.setR ls tx key has v = X at *
    generalize Ch.setLs ls key has v = Y at *
    obtain ⟨yc, yl⟩ := Y
    obtain ⟨bk, bh, bv⟩ := bb
    simp only at HR HX1 HX0 PI BI
    clear HC hg hk hv
    go_enter Try.func13, Try.ntmps13
    go_wp2_with fail
    refine (FI _ _ _ _ (h.below (b0 _)) (nb _) (by omega)).mono ?_
    rintro e w1 ⟨rfl, b1⟩
    obtain ⟨x0, x1, x2, f0, f1, f2⟩ := three_box (below_box b1)
    have hz := lt_of_cell x0
    have bE := (b0 _).trans (b1.mono (b0 _).size)
    clear b1 FI nb
    go_wp2_with fail
    refine (PI _ (h.below bE)).mono ?_
    rintro e w2 ⟨a2, m2, c2, rfl, own2, b2⟩
    have z2 := b2.size
    replace x0 := keep_cell b2 x0
    replace x1 := keep_cell b2 x1
    replace x2 := keep_cell b2 x2
    replace f0 := ((bcell b2).2 w.heap.size 0 hz).trans f0
    replace f1 := ((bcell b2).2 w.heap.size 1 hz).trans f1
    replace f2 := ((bcell b2).2 w.heap.size 2 hz).trans f2
    have hz2 := lt_of_cell x0
    have bF := bE.trans (b2.mono bE.size)
    clear PI b2
    by_cases hy : yc = 0
    · subst hy
      replace HX0 := hid (HX0.out rfl)
      clear HX1
      have bG := bF.alloc bF.size (.cells #[.int .i64 0, .slice a2 m2 c2] 97)
      go_wp2_with fail
      refine (BI _ (h.below bG)).mono ?_
      rintro e w3 ⟨rfl, b3⟩
      have z3 := b3.size
      simp at z3
      obtain ⟨y0, y1, _, _⟩ := two_box b3
      have b3' := below_box b3
      replace x0 := keep_cell b3' x0
      replace x1 := keep_cell b3' x1
      replace x2 := keep_cell b3' x2
      replace f0 := ((bcell b3').2 w.heap.size 0 hz2).trans f0
      replace f1 := ((bcell b3').2 w.heap.size 1 hz2).trans f1
      replace f2 := ((bcell b3').2 w.heap.size 2 hz2).trans f2
      have hz3 := lt_of_cell x0
      have hy3 := lt_of_cell y0
      have own3 := own2.below b3'
      have bH := bF.trans (b3'.mono bF.size)
      clear BI b3
      have hz4 : w.heap.size < w3.heap.size + 1 := by omega
      have hz5 : w.heap.size < w3.heap.size + 1 + 1 := by omega
      have hz6 : w.heap.size < w3.heap.size + 2 := by omega
      go_wp2
      refine bodyPost_ret (v := .agg #[.int .i64 0, .slice a2 m2 c2, .slice (some ⟨w3.heap.size + 2, 0, none⟩) 1 1]) (by simp [results, Try.results13, go_sem, x0, x1, x2, hz3, Nat.lt_succ_of_lt hz3, Nat.lt_succ_of_lt (Nat.lt_succ_of_lt hz3)]) rfl ⟨a2, m2, c2, _, 1, 1, by rw [HX0.out], ?_, ?_⟩
      · rw [HX0.out, HR.out]
        obtain ⟨vs, own3⟩ := own3.told
        have own4 := ((own3.store3 (q := w.heap.size) (o := 0) hz (.int .i64 0)).store3 (q := w.heap.size) (o := 1) hz (.slice a2 m2 c2)).store3 (q := w.heap.size) (o := 2) hz (.slice (some ⟨w3.heap.size + 1 + 1, 0, none⟩) 1 1)
        generalize hW : ((w3.setCell ⟨w.heap.size, 0, none⟩ (.int .i64 0)).setCell ⟨w.heap.size, 1, none⟩ (.slice a2 m2 c2)).setCell ⟨w.heap.size, 2, none⟩ (.slice (some ⟨w3.heap.size + 1 + 1, 0, none⟩) 1 1) = W at own4 ⊢
        have hsz : W.heap.size = w3.heap.size := by rw [← hW]; simp
        have k2 := ((Below.refl W.heap.size W).alloc (Nat.le_refl _) (.cells #[.int .i64 bk, .bool bh, .int .i64 bv] 32)).alloc (by simp) (.cells #[.int .i64 2, .int .i64 tx, .int .i64 key, .bool bh, .int .i64 bv, .bool has, .int .i64 v] 41)
        exact (OwnU.make own4 k2 ⟨2, tx, key, bh, bv, has, v⟩ (H := w3.heap.size + 2) (by simp; omega) (by omega)).base (Nat.le_of_lt hz)
      · exact Below.alloc (Below.alloc (Below.alloc (((bH.setCell (p := ⟨w.heap.size, 0, none⟩) (Nat.le_refl _) _).setCell (p := ⟨w.heap.size, 1, none⟩) (Nat.le_refl _) _).setCell (p := ⟨w.heap.size, 2, none⟩) (Nat.le_refl _) _) (by simp; omega) _) (by simp; omega) _) (by simp; omega) _
    · replace HX1 := hid (HX1.out yc rfl (by simpa using hy))
      clear HX0
      have hyc : (yc != 0) = true := by simpa using hy
      go_wp2
      refine bodyPost_ret (v := .agg #[.int .i64 yc, .slice none 0 0, .slice none 0 0]) (by simp [results, Try.results13, go_sem, x0, x1, x2, hz2]) rfl ⟨none, 0, 0, none, 0, 0, by rw [HX1.out], ?_, ?_⟩
      · rw [HX1.out]
        exact OwnU.none _ _
      · exact Below.alloc (((bF.setCell (p := ⟨w.heap.size, 0, none⟩) (Nat.le_refl _) _).setCell (p := ⟨w.heap.size, 1, none⟩) (Nat.le_refl _) _).setCell (p := ⟨w.heap.size, 2, none⟩) (Nat.le_refl _) _) (by simp; omega) _
  · have hc : (c != 0) = true := by simpa using h0
    rw [Ch.setR_code HC.out hc]
    clear HC
    go_enter Try.func13, Try.ntmps13
    go_wp2_with fail
    refine (FI _ _ _ _ (h.below (b0 _)) (nb _) (by omega)).mono ?_
    rintro e w1 ⟨rfl, b1⟩
    obtain ⟨x0, x1, x2, f0, f1, f2⟩ := three_box (below_box b1)
    have hz := lt_of_cell x0
    have bE := (b0 _).trans (b1.mono (b0 _).size)
    clear b1 FI nb
    go_wp2
    exact bodyPost_ret (v := .agg #[.int .i64 c, .slice none 0 0, .slice none 0 0]) (by simp [results, Try.results13, go_sem, x0, x1, x2, hz]) rfl ⟨none, 0, 0, none, 0, 0, rfl, OwnU.none _ _, ((bE.setCell (p := ⟨w.heap.size, 0, none⟩) (Nat.le_refl _) _).setCell (p := ⟨w.heap.size, 1, none⟩) (Nat.le_refl _) _).setCell (p := ⟨w.heap.size, 2, none⟩) (Nat.le_refl _) _⟩
end Go.Proofs.Ythfanfnbjldddaa


/- SetValue of the model. -/
namespace Go.Proofs.Ythfanfnbjldddaa
open Go.RowKit

theorem rowSeven {W : World} {g : Nat} {t : TypeId} {u0 u1 u2 u3 u4 u5 u6 : Value} (h : W.heap[g]? = some (.cells #[u0, u1, u2, u3, u4, u5, u6] t (0, 0))) :
    (W.cell? ⟨g, 0, none⟩ = some u0 ∧ W.cell? ⟨g, 1, none⟩ = some u1 ∧ W.cell? ⟨g, 2, none⟩ = some u2 ∧ W.cell? ⟨g, 3, none⟩ = some u3 ∧ W.cell? ⟨g, 4, none⟩ = some u4 ∧ W.cell? ⟨g, 5, none⟩ = some u5 ∧ W.cell? ⟨g, 6, none⟩ = some u6) ∧ ∀ o, W.frozen? ⟨g, o, none⟩ = false :=
  ⟨⟨cell_of_row _ _ _ _ _ _ h, cell_of_row _ _ _ _ _ _ h, cell_of_row _ _ _ _ _ _ h, cell_of_row _ _ _ _ _ _ h, cell_of_row _ _ _ _ _ _ h, cell_of_row _ _ _ _ _ _ h, cell_of_row _ _ _ _ _ _ h⟩, fun o => by simp [World.frozen?, h]⟩
theorem below_store7 {B : Nat} {w w' : World} (h : Below B w w') {q : Nat} (hq : B ≤ q) (v0 v1 v2 v3 v4 v5 v6 : Value) : Below B w (((((((w'.setCell ⟨q, 0, none⟩ v0).setCell ⟨q, 1, none⟩ v1).setCell ⟨q, 2, none⟩ v2).setCell ⟨q, 3, none⟩ v3).setCell ⟨q, 4, none⟩ v4).setCell ⟨q, 5, none⟩ v5).setCell ⟨q, 6, none⟩ v6) :=
  ((((((h.setCell (p := ⟨q, 0, none⟩) hq v0).setCell (p := ⟨q, 1, none⟩) hq v1).setCell (p := ⟨q, 2, none⟩) hq v2).setCell (p := ⟨q, 3, none⟩) hq v3).setCell (p := ⟨q, 4, none⟩) hq v4).setCell (p := ⟨q, 5, none⟩) hq v5).setCell (p := ⟨q, 6, none⟩) hq v6
theorem OwnV.store7 {w : World} {B m : Nat} {lv : Value} {vs : List Value} {ls : List (List Ch.Row)} (h : OwnV w B lv m vs ls) {q : Nat} (hq : q < B) (v0 v1 v2 v3 v4 v5 v6 : Value) : OwnV (((((((w.setCell ⟨q, 0, Option.none⟩ v0).setCell ⟨q, 1, Option.none⟩ v1).setCell ⟨q, 2, Option.none⟩ v2).setCell ⟨q, 3, Option.none⟩ v3).setCell ⟨q, 4, Option.none⟩ v4).setCell ⟨q, 5, Option.none⟩ v5).setCell ⟨q, 6, Option.none⟩ v6) B lv m vs ls :=
  ((((((h.store3 hq v0).store3 hq v1).store3 hq v2).store3 hq v3).store3 hq v4).store3 hq v5).store3 hq v6

set_option linter.unusedSimpArgs false in
set_option maxRecDepth 20000 in
set_option maxHeartbeats 4000000 in
theorem l8Set_any (a : Option Addr) (n cap : Nat) (tx key : Int) (has : Bool) (v : Int) (ls : List (List Ch.Row)) (w : World) (h : LvAt w a n ls) (hg : Ch.leavesFault ls = 0) (hk : Ch.inB key 0 99 = true) :
    Calls Try.prog 65 #[.slice a n cap, .int .i64 tx, .int .i64 key, .bool has, .int .i64 v] w fun e w' => ∃ a' m c', e = .returned (.tuple #[.slice a' m c', .agg #[.int .i64 2, .int .i64 tx, .int .i64 key, .bool (Ch.bf key (Ch.has ls key)).h, .int .i64 (Ch.bf key (Ch.has ls key)).v, .bool has, .int .i64 v], .int .i64 (Ch.setLs ls key has v).1]) ∧ OwnLv w' w.heap.size (.slice a' m c') m (Ch.setLs ls key has v).2 ∧ Below w.heap.size w w' := by
  have hs := Ch.good_size hg
  have ha := Ch.asked_of hg hk
  have hgl := good_leaves (key := key) h.len.out (by rw [ha]; rfl)
  have BI := fun W hW => l8Before_any a n cap key ls W hW hs hgl
  have kA : ∀ o, Below w.heap.size w (w.alloc o) := fun o => (Below.refl _ _).alloc (Nat.le_refl _) o
  generalize Ch.bf key (Ch.has ls key) = bb at *
  obtain ⟨bk, bh, bv⟩ := bb
  cases has
  · have FI := fun W hW => specFind_any a n cap key ls W hW hs hgl
    have PI := fun W hW => specPut_any a n cap ls key 0 true W hW hs hg
    have CI := fun W hW => specCopy_any a n cap ls W hW hs hgl
    have HS1 := hid (fun hf => (show Ch.setLs ls key false v = (0, Ch.put ls ⟨key, 0, true⟩) by unfold Ch.setLs; rw [if_neg Bool.false_ne_true, if_pos hf]))
    have HS0 := hid (fun hf => Ch.setLs_none (ls := ls) (key := key) (v := v) hf)
    generalize Ch.put ls ⟨key, 0, true⟩ = P at *
    generalize Ch.setLs ls key false v = X at *
    go_enter Try.func65, Try.ntmps65
    go_wp2_with fail
    refine (BI _ (h.below (kA _))).mono ?_
    rintro e w1 ⟨rfl, b1⟩
    have hR := block_below b1 (heap_alloc_new w _)
    have bE := below_box b1
    clear b1 BI
    have kB : ∀ o o', Below w1.heap.size w1 ((w1.alloc o).alloc o') := fun o o' => ((Below.refl _ _).alloc (Nat.le_refl _) o).alloc (by simp) o'
    go_wp2_with fail
    refine (FI _ (h.below (bE.trans ((kB _ _).mono bE.size)))).mono ?_
    rintro e w2 ⟨⟨rk, rv, rg⟩, ok, rfl, his, b2⟩
    have hT := block_below b2 (heap_alloc_new _ _)
    have hR2 := block_below b2 (block_below (kB _ _) hR)
    have bF := (bE.trans ((kB _ _).mono bE.size)).trans (b2.mono (Nat.le_trans bE.size (kB _ _).size))
    have hz1 := (Array.getElem?_eq_some_iff.1 hR).1
    have z2 := b2.size
    simp at z2 hT
    have kC : Below w2.heap.size w2 (w2.alloc (.cells #[.int .i64 rk, .int .i64 rv, .bool rg] 105)) := (Below.refl _ _).alloc (Nat.le_refl _) _
    replace hT := block_below kC hT
    replace hR2 := block_below kC hR2
    replace bF := bF.trans (kC.mono bF.size)
    clear kC hR b2 FI
    simp only [FindIs] at his
    rcases his with ⟨rfl, hf⟩ | ⟨rfl, hf⟩
    · have HX := hid (HS1.out (by rw [hf]; rfl))
      clear HS1 HS0 CI hf
      have hzz : w.heap.size < (w2.alloc (.cells #[.int .i64 rk, .int .i64 rv, .bool rg] 105)).heap.size := (Array.getElem?_eq_some_iff.1 hR2).1
      obtain ⟨⟨y0, y1, y2, y3, y4, y5, y6⟩, _⟩ := rowSeven hT
      go_wp2
      go_region_with (go_at_call 110; refine (PI _ (h.below bF.drew)).mono ?_; rintro e w3 ⟨a3, m3, c3, rfl, own3, b3⟩; have b4 : Below (w2.alloc (.cells #[.int .i64 rk, .int .i64 rv, .bool rg] 105)).heap.size (w2.alloc (.cells #[.int .i64 rk, .int .i64 rv, .bool rg] 105)) w3 := ⟨b3.os, b3.tape, b3.output, b3.size, b3.block⟩; have hR3 := block_below b4 hR2; have y0 := keep_cell b4 y0; have y1 := keep_cell b4 y1; have y2 := keep_cell b4 y2; have y3 := keep_cell b4 y3; have y4 := keep_cell b4 y4; have y5 := keep_cell b4 y5; have y6 := keep_cell b4 y6; obtain ⟨⟨x0, x1, x2, x3, x4, x5, x6⟩, fx⟩ := rowSeven hR3; have f0 := fx 0; have f1 := fx 1; have f2 := fx 2; have f3 := fx 3; have f4 := fx 4; have f5 := fx 5; have f6 := fx 6; clear fx)
      all_goals
        have bG := bF.trans (b4.mono bF.size)
        obtain ⟨vs, own3⟩ := own3.told
        have own4 := (own3.store7 (q := w.heap.size) hzz (.int .i64 2) (.int .i64 tx) (.int .i64 key) (.bool bh) (.int .i64 bv) (.bool false) (.int .i64 v)).base (B' := w.heap.size) (Nat.le_of_lt hzz)
        have bH := below_store7 bG (q := w.heap.size) (Nat.le_refl _) (.int .i64 2) (.int .i64 tx) (.int .i64 key) (.bool bh) (.int .i64 bv) (.bool false) (.int .i64 v)
        go_wp2
        exact bodyPost_ret (v := .tuple #[.slice a3 m3 c3, .agg #[.int .i64 2, .int .i64 tx, .int .i64 key, .bool bh, .int .i64 bv, .bool false, .int .i64 v], .int .i64 0]) (by simp [results, Try.results65, go_sem, x0, x1, x2, x3, x4, x5, x6]) rfl ⟨a3, m3, c3, by rw [HX.out], by rw [HX.out]; exact own4.own, bH⟩
    · have HX := hid (HS0.out hf)
      clear HS1 HS0 PI hf
      have hzz : w.heap.size < (w2.alloc (.cells #[.int .i64 rk, .int .i64 rv, .bool rg] 105)).heap.size := (Array.getElem?_eq_some_iff.1 hR2).1
      obtain ⟨⟨y0, y1, y2, y3, y4, y5, y6⟩, _⟩ := rowSeven hT
      go_wp2
      go_region_with (go_at_call 112; refine (CI _ (h.below bF.drew)).mono ?_; rintro e w3 ⟨a3, c3, rfl, own3, b3⟩; have b4 : Below (w2.alloc (.cells #[.int .i64 rk, .int .i64 rv, .bool rg] 105)).heap.size (w2.alloc (.cells #[.int .i64 rk, .int .i64 rv, .bool rg] 105)) w3 := ⟨b3.os, b3.tape, b3.output, b3.size, b3.block⟩; have hR3 := block_below b4 hR2; have y0 := keep_cell b4 y0; have y1 := keep_cell b4 y1; have y2 := keep_cell b4 y2; have y3 := keep_cell b4 y3; have y4 := keep_cell b4 y4; have y5 := keep_cell b4 y5; have y6 := keep_cell b4 y6; obtain ⟨⟨x0, x1, x2, x3, x4, x5, x6⟩, fx⟩ := rowSeven hR3; have f0 := fx 0; have f1 := fx 1; have f2 := fx 2; have f3 := fx 3; have f4 := fx 4; have f5 := fx 5; have f6 := fx 6; clear fx)
      all_goals
        have bG := bF.trans (b4.mono bF.size)
        obtain ⟨vs, own3⟩ := own3.told
        have own4 := (own3.store7 (q := w.heap.size) hzz (.int .i64 2) (.int .i64 tx) (.int .i64 key) (.bool bh) (.int .i64 bv) (.bool false) (.int .i64 v)).base (B' := w.heap.size) (Nat.le_of_lt hzz)
        have bH := below_store7 bG (q := w.heap.size) (Nat.le_refl _) (.int .i64 2) (.int .i64 tx) (.int .i64 key) (.bool bh) (.int .i64 bv) (.bool false) (.int .i64 v)
        go_wp2
        exact bodyPost_ret (v := .tuple #[.slice a3 n c3, .agg #[.int .i64 2, .int .i64 tx, .int .i64 key, .bool bh, .int .i64 bv, .bool false, .int .i64 v], .int .i64 0]) (by simp [results, Try.results65, go_sem, x0, x1, x2, x3, x4, x5, x6]) rfl ⟨a3, n, c3, by rw [HX.out], by rw [HX.out]; exact own4.own, bH⟩
  · have PI := fun W hW => specPut_any a n cap ls key v false W hW hs hg
    have HS : Hid (Ch.setLs ls key true v = if 60 < (Ch.put ls ⟨key, v, false⟩).length then (2, []) else (0, Ch.put ls ⟨key, v, false⟩)) := rfl
    generalize Ch.put ls ⟨key, v, false⟩ = P at *
    generalize Ch.setLs ls key true v = X at *
    go_enter Try.func65, Try.ntmps65
    go_wp2_with fail
    refine (BI _ (h.below (kA _))).mono ?_
    rintro e w1 ⟨rfl, b1⟩
    have hR := block_below b1 (heap_alloc_new w _)
    have bE := below_box b1
    clear b1 BI
    have kB : ∀ o o', Below w1.heap.size w1 ((w1.alloc o).alloc o') := fun o o' => ((Below.refl _ _).alloc (Nat.le_refl _) o).alloc (by simp) o'
    go_wp2_with fail
    refine (PI _ (h.below (bE.trans ((kB _ _).mono bE.size)))).mono ?_
    rintro e w2 ⟨a2, m2, c2, rfl, own2, b2⟩
    have hT := block_below b2 (heap_alloc_new _ _)
    have hR2 := block_below b2 (block_below (kB _ _) hR)
    have bF := (bE.trans ((kB _ _).mono bE.size)).trans (b2.mono (Nat.le_trans bE.size (kB _ _).size))
    have hz1 := (Array.getElem?_eq_some_iff.1 hR).1
    have z2 := b2.size
    simp at z2 hT
    obtain ⟨⟨x0, x1, x2, x3, x4, x5, x6⟩, fx⟩ := rowSeven hR2
    obtain ⟨⟨y0, y1, y2, y3, y4, y5, y6⟩, fy⟩ := rowSeven hT
    have f0 := fx 0
    have f1 := fx 1
    have f2 := fx 2
    have f3 := fx 3
    have f4 := fx 4
    have f5 := fx 5
    have f6 := fx 6
    clear fx fy hT hR2 hR PI
    obtain ⟨vs, own2⟩ := own2.told
    have HM : Hid (m2 = P.length) := own2.1.symm
    have own3 := (own2.store7 (q := w.heap.size) (by simp; omega) (.int .i64 2) (.int .i64 tx) (.int .i64 key) (.bool bh) (.int .i64 bv) (.bool true) (.int .i64 v)).base (B' := w.heap.size) (by simp; omega)
    have bG := below_store7 bF (q := w.heap.size) (Nat.le_refl _) (.int .i64 2) (.int .i64 tx) (.int .i64 key) (.bool bh) (.int .i64 bv) (.bool true) (.int .i64 v)
    by_cases h60 : 60 < m2
    · rw [if_pos (by have := HM.out; omega)] at HS
      go_wp2
      go_region
      all_goals
        go_wp2
        exact bodyPost_ret (v := .tuple #[.slice none 0 0, .agg #[.int .i64 2, .int .i64 tx, .int .i64 key, .bool bh, .int .i64 bv, .bool true, .int .i64 v], .int .i64 2]) (by simp [results, Try.results65, go_sem, x0, x1, x2, x3, x4, x5, x6]) rfl ⟨none, 0, 0, by rw [HS.out], by rw [HS.out]; exact OwnLv.nil _ _, bG.drew⟩
    · rw [if_neg (by have := HM.out; omega)] at HS
      go_wp2
      go_region
      all_goals
        go_wp2
        exact bodyPost_ret (v := .tuple #[.slice a2 m2 c2, .agg #[.int .i64 2, .int .i64 tx, .int .i64 key, .bool bh, .int .i64 bv, .bool true, .int .i64 v], .int .i64 0]) (by simp [results, Try.results65, go_sem, x0, x1, x2, x3, x4, x5, x6]) rfl ⟨a2, m2, c2, by rw [HS.out], by rw [HS.out]; exact (own3.below (Below.refl _ _).drew).own, bG.drew⟩

theorem Ch.setF_lv {ls : List (List Ch.Row)} {tx : Int} {bs : List Ch.Bf} {c : Int} (h : Ch.leavesFault ls = c) (hc : (c != 0) = true) : Ch.setF ls tx bs = c := by rw [Ch.setF, h, if_pos hc]
theorem Ch.setF_tx {ls : List (List Ch.Row)} {tx : Int} {bs : List Ch.Bf} (h : Ch.leavesFault ls = 0) (ht : Ch.inB tx 1 999 = false) : Ch.setF ls tx bs = 3 := by rw [Ch.setF, h, ht]; rfl
theorem Ch.setF_bf {ls : List (List Ch.Row)} {tx : Int} {b : Ch.Bf} (h : Ch.leavesFault ls = 0) (ht : Ch.inB tx 1 999 = true) : Ch.setF ls tx [b] = b.fault := by rw [Ch.setF, h, ht, Ch.bef_single]; rfl

set_option linter.unusedSimpArgs false in
set_option maxRecDepth 20000 in
set_option maxHeartbeats 4000000 in
theorem specSetValue_any (a : Option Addr) (n cap : Nat) (tx key : Int) (has : Bool) (v : Int) (ls : List (List Ch.Row)) (w : World) (h : LvAt w a n ls) (hs : Ch.lvSize ls ≤ 1048576) :
    Calls Try.prog 14 #[.slice a n cap, .int .i64 tx, .int .i64 key, .bool has, .int .i64 v] w fun e w' => ∃ a' m c' r p q, e = .returned (.agg #[.int .i64 (Ch.setR ls tx key has v).1, .slice a' m c', .slice r p q]) ∧ OwnU w' w.heap.size (.slice a' m c') m (Ch.setR ls tx key has v).2.1 (.slice r p q) p (Ch.setR ls tx key has v).2.2 ∧ Below w.heap.size w w' := by
  have b0 : Below w.heap.size w (w.alloc (.cells #[.int .i64 0, .slice none 0 0, .slice none 0 0] 29)) := (Below.refl _ _).alloc (Nat.le_refl _) _
  have LI := fun W hW => specLv_any a n cap ls W hW hs
  have IT := fun W => l2Txn_any tx W
  have IK := fun W => key_any key W
  have IV := fun W => value_any v W
  obtain ⟨c, HC⟩ : ∃ c, Hid (Ch.leavesFault ls = c) := ⟨_, rfl⟩
  rw [HC.out] at LI
  by_cases h0 : c = 0
  rotate_left
  · have hc : (c != 0) = true := by simpa using h0
    have HX := hid (Ch.setR_code (tx := tx) (key := key) (has := has) (v := v) (Ch.setF_lv HC.out hc) hc)
    generalize Ch.setR ls tx key has v = X at *
    go_enter Try.func14, Try.ntmps14
    go_wp2_with fail
    refine (LI _ (h.below b0)).mono ?_
    rintro e w1 ⟨rfl, b1⟩
    obtain ⟨x0, x1, x2, f0, f1, f2⟩ := three_box b1
    have hz := lt_of_cell x0
    have bE := b0.trans (b1.mono b0.size)
    clear b1 LI
    go_wp2
    exact bodyPost_ret (v := .agg #[.int .i64 c, .slice none 0 0, .slice none 0 0]) (by simp [results, Try.results14, go_sem, x0, x1, x2, hz]) rfl ⟨none, 0, 0, none, 0, 0, by rw [HX.out], by rw [HX.out]; exact OwnU.none _ _, ((bE.setCell (p := ⟨w.heap.size, 0, none⟩) (Nat.le_refl _) _).setCell (p := ⟨w.heap.size, 1, none⟩) (Nat.le_refl _) _).setCell (p := ⟨w.heap.size, 2, none⟩) (Nat.le_refl _) _⟩
  subst h0
  cases ht : Ch.inB tx 1 999
  · have HX := hid (Ch.setR_code (key := key) (has := has) (v := v) (Ch.setF_tx (bs := [⟨key, has, v⟩]) HC.out ht) rfl)
    generalize Ch.setR ls tx key has v = X at *
    rw [ht] at IT
    go_enter Try.func14, Try.ntmps14
    go_wp2_with fail
    refine (LI _ (h.below b0)).mono ?_
    rintro e w1 ⟨rfl, b1⟩
    obtain ⟨x0, x1, x2, f0, f1, f2⟩ := three_box b1
    have hz := lt_of_cell x0
    have bE := b0.trans (b1.mono b0.size)
    clear b1 LI
    go_wp2_with fail
    refine (IT _).mono ?_
    rintro e w' ⟨rfl, rfl⟩
    go_wp2
    exact bodyPost_ret (v := .agg #[.int .i64 3, .slice none 0 0, .slice none 0 0]) (by simp [results, Try.results14, go_sem, x0, x1, x2, hz]) rfl ⟨none, 0, 0, none, 0, 0, by rw [HX.out], by rw [HX.out]; exact OwnU.none _ _, ((bE.setCell (p := ⟨w.heap.size, 0, none⟩) (Nat.le_refl _) _).setCell (p := ⟨w.heap.size, 1, none⟩) (Nat.le_refl _) _).setCell (p := ⟨w.heap.size, 2, none⟩) (Nat.le_refl _) _⟩
  cases hk : Ch.inB key 0 99
  · have HX := hid (Ch.setR_code (key := key) (has := has) (v := v) ((Ch.setF_bf (b := ⟨key, has, v⟩) HC.out ht).trans (Ch.bf_range (by rw [hk]; rfl))) rfl)
    generalize Ch.setR ls tx key has v = X at *
    rw [ht] at IT
    rw [hk] at IK
    go_enter Try.func14, Try.ntmps14
    go_wp2_with fail
    refine (LI _ (h.below b0)).mono ?_
    rintro e w1 ⟨rfl, b1⟩
    obtain ⟨x0, x1, x2, f0, f1, f2⟩ := three_box b1
    have hz := lt_of_cell x0
    have bE := b0.trans (b1.mono b0.size)
    clear b1 LI
    go_wp2_with fail
    refine (IT _).mono ?_
    rintro e w' ⟨rfl, rfl⟩
    go_wp2_with fail
    refine (IK _).mono ?_
    rintro e w' ⟨rfl, rfl⟩
    go_wp2
    exact bodyPost_ret (v := .agg #[.int .i64 3, .slice none 0 0, .slice none 0 0]) (by simp [results, Try.results14, go_sem, x0, x1, x2, hz]) rfl ⟨none, 0, 0, none, 0, 0, by rw [HX.out], by rw [HX.out]; exact OwnU.none _ _, ((bE.setCell (p := ⟨w.heap.size, 0, none⟩) (Nat.le_refl _) _).setCell (p := ⟨w.heap.size, 1, none⟩) (Nat.le_refl _) _).setCell (p := ⟨w.heap.size, 2, none⟩) (Nat.le_refl _) _⟩
  cases hv : Ch.inB v 0 9999
  · have HX := hid (Ch.setR_code (key := key) (has := has) (v := v) ((Ch.setF_bf (b := ⟨key, has, v⟩) HC.out ht).trans (Ch.bf_range (by rw [hk, hv]; rfl))) rfl)
    generalize Ch.setR ls tx key has v = X at *
    rw [ht] at IT
    rw [hk] at IK
    rw [hv] at IV
    go_enter Try.func14, Try.ntmps14
    go_wp2_with fail
    refine (LI _ (h.below b0)).mono ?_
    rintro e w1 ⟨rfl, b1⟩
    obtain ⟨x0, x1, x2, f0, f1, f2⟩ := three_box b1
    have hz := lt_of_cell x0
    have bE := b0.trans (b1.mono b0.size)
    clear b1 LI
    go_wp2_with fail
    refine (IT _).mono ?_
    rintro e w' ⟨rfl, rfl⟩
    go_wp2_with fail
    refine (IK _).mono ?_
    rintro e w' ⟨rfl, rfl⟩
    go_wp2_with fail
    refine (IV _).mono ?_
    rintro e w' ⟨rfl, rfl⟩
    go_wp2
    exact bodyPost_ret (v := .agg #[.int .i64 3, .slice none 0 0, .slice none 0 0]) (by simp [results, Try.results14, go_sem, x0, x1, x2, hz]) rfl ⟨none, 0, 0, none, 0, 0, by rw [HX.out], by rw [HX.out]; exact OwnU.none _ _, ((bE.setCell (p := ⟨w.heap.size, 0, none⟩) (Nat.le_refl _) _).setCell (p := ⟨w.heap.size, 1, none⟩) (Nat.le_refl _) _).setCell (p := ⟨w.heap.size, 2, none⟩) (Nat.le_refl _) _⟩
  cases hf : (!has && v != 0)
  rotate_left
  · have HX := hid (Ch.setR_code (key := key) (has := has) (v := v) ((Ch.setF_bf (b := ⟨key, has, v⟩) HC.out ht).trans (Ch.bf_form (by rw [hk, hv]; rfl) hf)) rfl)
    obtain ⟨rfl, hv0⟩ : has = false ∧ (v != 0) = true := by cases has <;> simp_all
    clear hf
    generalize Ch.setR ls tx key false v = X at *
    rw [ht] at IT
    rw [hk] at IK
    rw [hv] at IV
    go_enter Try.func14, Try.ntmps14
    go_wp2_with fail
    refine (LI _ (h.below b0)).mono ?_
    rintro e w1 ⟨rfl, b1⟩
    obtain ⟨x0, x1, x2, f0, f1, f2⟩ := three_box b1
    have hz := lt_of_cell x0
    have bE := b0.trans (b1.mono b0.size)
    clear b1 LI
    go_wp2_with fail
    refine (IT _).mono ?_
    rintro e w' ⟨rfl, rfl⟩
    go_wp2_with fail
    refine (IK _).mono ?_
    rintro e w' ⟨rfl, rfl⟩
    go_wp2_with fail
    refine (IV _).mono ?_
    rintro e w' ⟨rfl, rfl⟩
    go_wp2
    exact bodyPost_ret (v := .agg #[.int .i64 1, .slice none 0 0, .slice none 0 0]) (by simp [results, Try.results14, go_sem, x0, x1, x2, hz]) rfl ⟨none, 0, 0, none, 0, 0, by rw [HX.out], by rw [HX.out]; exact OwnU.none _ _, ((bE.setCell (p := ⟨w.heap.size, 0, none⟩) (Nat.le_refl _) _).setCell (p := ⟨w.heap.size, 1, none⟩) (Nat.le_refl _) _).setCell (p := ⟨w.heap.size, 2, none⟩) (Nat.le_refl _) _⟩
  have HF := hid ((Ch.setF_bf (b := ⟨key, has, v⟩) HC.out ht).trans (Ch.bf_fine (by rw [hk, hv]; rfl) hf))
  have SI := fun W hW => l8Set_any a n cap tx key has v ls W hW HC.out hk
  have HX1 := hid (fun c hs hc => Ch.setR_many (c := c) HF.out hs hc)
  have HX0 := hid (fun hs => Ch.setR_ok HF.out hs)
  have HR : Hid (Ch.setRec 2 ls tx key has v = ⟨2, tx, key, (Ch.bf key (Ch.has ls key)).h, (Ch.bf key (Ch.has ls key)).v, has, v⟩) := rfl
  rw [ht] at IT
  rw [hk] at IK
  rw [hv] at IV
  generalize Ch.bf key (Ch.has ls key) = bb at *
  generalize Ch.setRec 2 ls tx key has v = rr at *
  generalize Ch.setR ls tx key has v = X at *
  generalize Ch.setLs ls key has v = Y at *
  obtain ⟨yc, yl⟩ := Y
  obtain ⟨bk, bh, bv⟩ := bb
  simp only at HR HX1 HX0 SI
  clear HF HC ht hk hv
  by_cases hy : yc = 0
  · subst hy
    replace HX0 := hid (HX0.out rfl)
    clear HX1
    have hcase : has = true ∨ (has = false ∧ (v != 0) = false) := by cases has <;> simp_all
    rcases hcase with rfl | ⟨rfl, hv0⟩
    · go_enter Try.func14, Try.ntmps14
      go_wp2_with fail
      refine (LI _ (h.below b0)).mono ?_
      rintro e w1 ⟨rfl, b1⟩
      obtain ⟨x0, x1, x2, f0, f1, f2⟩ := three_box b1
      have hz := lt_of_cell x0
      have bE := b0.trans (b1.mono b0.size)
      clear b1 LI
      go_wp2_with fail
      refine (IT _).mono ?_
      rintro e w' ⟨rfl, rfl⟩
      go_wp2_with fail
      refine (IK _).mono ?_
      rintro e w' ⟨rfl, rfl⟩
      go_wp2_with fail
      refine (IV _).mono ?_
      rintro e w' ⟨rfl, rfl⟩
      go_wp2_with fail
      refine (SI _ (h.below bE)).mono ?_
      rintro e w2 ⟨a2, m2, c2, rfl, own2, b2⟩
      replace x0 := keep_cell b2 x0
      replace x1 := keep_cell b2 x1
      replace x2 := keep_cell b2 x2
      replace f0 := ((bcell b2).2 w.heap.size 0 hz).trans f0
      replace f1 := ((bcell b2).2 w.heap.size 1 hz).trans f1
      replace f2 := ((bcell b2).2 w.heap.size 2 hz).trans f2
      have hz2 := lt_of_cell x0
      have z2 := b2.size
      have bF := bE.trans (b2.mono bE.size)
      have hz4 : w.heap.size < w2.heap.size + 1 := by omega
      have hz5 : w.heap.size < w2.heap.size + 1 + 1 := by omega
      clear SI b2
      go_wp2
      refine bodyPost_ret (v := .agg #[.int .i64 0, .slice a2 m2 c2, .slice (some ⟨w2.heap.size + 1, 0, none⟩) 1 1]) (by simp [results, Try.results14, go_sem, x0, x1, x2, hz2, hz4]) rfl ⟨a2, m2, c2, _, 1, 1, by rw [HX0.out], ?_, ?_⟩
      · rw [HX0.out, HR.out]
        obtain ⟨vs, own3⟩ := own2.told
        have own4 := ((own3.store3 (q := w.heap.size) (o := 0) hz (.int .i64 0)).store3 (q := w.heap.size) (o := 1) hz (.slice a2 m2 c2)).store3 (q := w.heap.size) (o := 2) hz (.slice (some ⟨w2.heap.size + 1, 0, none⟩) 1 1)
        generalize hW : ((w2.setCell ⟨w.heap.size, 0, none⟩ (.int .i64 0)).setCell ⟨w.heap.size, 1, none⟩ (.slice a2 m2 c2)).setCell ⟨w.heap.size, 2, none⟩ (.slice (some ⟨w2.heap.size + 1, 0, none⟩) 1 1) = W at own4 ⊢
        have hsz : W.heap.size = w2.heap.size := by rw [← hW]; simp
        have k2 := (Below.refl W.heap.size W).alloc (Nat.le_refl _) (.cells #[.int .i64 2, .int .i64 tx, .int .i64 key, .bool bh, .int .i64 bv, .bool true, .int .i64 v] 41)
        exact (OwnU.make own4 k2 ⟨2, tx, key, bh, bv, true, v⟩ (H := w2.heap.size + 1) (by simp; omega) (by omega)).base (Nat.le_of_lt hz)
      · exact Below.alloc (Below.alloc (((bF.setCell (p := ⟨w.heap.size, 0, none⟩) (Nat.le_refl _) _).setCell (p := ⟨w.heap.size, 1, none⟩) (Nat.le_refl _) _).setCell (p := ⟨w.heap.size, 2, none⟩) (Nat.le_refl _) _) (by simp; omega) _) (by simp; omega) _
    · go_enter Try.func14, Try.ntmps14
      go_wp2_with fail
      refine (LI _ (h.below b0)).mono ?_
      rintro e w1 ⟨rfl, b1⟩
      obtain ⟨x0, x1, x2, f0, f1, f2⟩ := three_box b1
      have hz := lt_of_cell x0
      have bE := b0.trans (b1.mono b0.size)
      clear b1 LI
      go_wp2_with fail
      refine (IT _).mono ?_
      rintro e w' ⟨rfl, rfl⟩
      go_wp2_with fail
      refine (IK _).mono ?_
      rintro e w' ⟨rfl, rfl⟩
      go_wp2_with fail
      refine (IV _).mono ?_
      rintro e w' ⟨rfl, rfl⟩
      go_wp2_with fail
      refine (SI _ (h.below bE)).mono ?_
      rintro e w2 ⟨a2, m2, c2, rfl, own2, b2⟩
      replace x0 := keep_cell b2 x0
      replace x1 := keep_cell b2 x1
      replace x2 := keep_cell b2 x2
      replace f0 := ((bcell b2).2 w.heap.size 0 hz).trans f0
      replace f1 := ((bcell b2).2 w.heap.size 1 hz).trans f1
      replace f2 := ((bcell b2).2 w.heap.size 2 hz).trans f2
      have hz2 := lt_of_cell x0
      have z2 := b2.size
      have bF := bE.trans (b2.mono bE.size)
      have hz4 : w.heap.size < w2.heap.size + 1 := by omega
      have hz5 : w.heap.size < w2.heap.size + 1 + 1 := by omega
      clear SI b2
      go_wp2
      refine bodyPost_ret (v := .agg #[.int .i64 0, .slice a2 m2 c2, .slice (some ⟨w2.heap.size + 1, 0, none⟩) 1 1]) (by simp [results, Try.results14, go_sem, x0, x1, x2, hz2, hz4]) rfl ⟨a2, m2, c2, _, 1, 1, by rw [HX0.out], ?_, ?_⟩
      · rw [HX0.out, HR.out]
        obtain ⟨vs, own3⟩ := own2.told
        have own4 := ((own3.store3 (q := w.heap.size) (o := 0) hz (.int .i64 0)).store3 (q := w.heap.size) (o := 1) hz (.slice a2 m2 c2)).store3 (q := w.heap.size) (o := 2) hz (.slice (some ⟨w2.heap.size + 1, 0, none⟩) 1 1)
        generalize hW : ((w2.setCell ⟨w.heap.size, 0, none⟩ (.int .i64 0)).setCell ⟨w.heap.size, 1, none⟩ (.slice a2 m2 c2)).setCell ⟨w.heap.size, 2, none⟩ (.slice (some ⟨w2.heap.size + 1, 0, none⟩) 1 1) = W at own4 ⊢
        have hsz : W.heap.size = w2.heap.size := by rw [← hW]; simp
        have k2 := (Below.refl W.heap.size W).alloc (Nat.le_refl _) (.cells #[.int .i64 2, .int .i64 tx, .int .i64 key, .bool bh, .int .i64 bv, .bool false, .int .i64 v] 41)
        exact (OwnU.make own4 k2 ⟨2, tx, key, bh, bv, false, v⟩ (H := w2.heap.size + 1) (by simp; omega) (by omega)).base (Nat.le_of_lt hz)
      · exact Below.alloc (Below.alloc (((bF.setCell (p := ⟨w.heap.size, 0, none⟩) (Nat.le_refl _) _).setCell (p := ⟨w.heap.size, 1, none⟩) (Nat.le_refl _) _).setCell (p := ⟨w.heap.size, 2, none⟩) (Nat.le_refl _) _) (by simp; omega) _) (by simp; omega) _
  · replace HX1 := hid (HX1.out yc rfl (by simpa using hy))
    clear HX0
    have hyc : (yc != 0) = true := by simpa using hy
    have hcase : has = true ∨ (has = false ∧ (v != 0) = false) := by cases has <;> simp_all
    rcases hcase with rfl | ⟨rfl, hv0⟩
    · go_enter Try.func14, Try.ntmps14
      go_wp2_with fail
      refine (LI _ (h.below b0)).mono ?_
      rintro e w1 ⟨rfl, b1⟩
      obtain ⟨x0, x1, x2, f0, f1, f2⟩ := three_box b1
      have hz := lt_of_cell x0
      have bE := b0.trans (b1.mono b0.size)
      clear b1 LI
      go_wp2_with fail
      refine (IT _).mono ?_
      rintro e w' ⟨rfl, rfl⟩
      go_wp2_with fail
      refine (IK _).mono ?_
      rintro e w' ⟨rfl, rfl⟩
      go_wp2_with fail
      refine (IV _).mono ?_
      rintro e w' ⟨rfl, rfl⟩
      go_wp2_with fail
      refine (SI _ (h.below bE)).mono ?_
      rintro e w2 ⟨a2, m2, c2, rfl, own2, b2⟩
      replace x0 := keep_cell b2 x0
      replace x1 := keep_cell b2 x1
      replace x2 := keep_cell b2 x2
      replace f0 := ((bcell b2).2 w.heap.size 0 hz).trans f0
      replace f1 := ((bcell b2).2 w.heap.size 1 hz).trans f1
      replace f2 := ((bcell b2).2 w.heap.size 2 hz).trans f2
      have hz2 := lt_of_cell x0
      have bF := bE.trans (b2.mono bE.size)
      clear SI b2 own2
      go_wp2
      refine bodyPost_ret (v := .agg #[.int .i64 yc, .slice none 0 0, .slice none 0 0]) (by simp [results, Try.results14, go_sem, x0, x1, x2, hz2]) rfl ⟨none, 0, 0, none, 0, 0, by rw [HX1.out], ?_, ?_⟩
      · rw [HX1.out]
        exact OwnU.none _ _
      · exact Below.alloc (((bF.setCell (p := ⟨w.heap.size, 0, none⟩) (Nat.le_refl _) _).setCell (p := ⟨w.heap.size, 1, none⟩) (Nat.le_refl _) _).setCell (p := ⟨w.heap.size, 2, none⟩) (Nat.le_refl _) _) (by simp; omega) _
    · go_enter Try.func14, Try.ntmps14
      go_wp2_with fail
      refine (LI _ (h.below b0)).mono ?_
      rintro e w1 ⟨rfl, b1⟩
      obtain ⟨x0, x1, x2, f0, f1, f2⟩ := three_box b1
      have hz := lt_of_cell x0
      have bE := b0.trans (b1.mono b0.size)
      clear b1 LI
      go_wp2_with fail
      refine (IT _).mono ?_
      rintro e w' ⟨rfl, rfl⟩
      go_wp2_with fail
      refine (IK _).mono ?_
      rintro e w' ⟨rfl, rfl⟩
      go_wp2_with fail
      refine (IV _).mono ?_
      rintro e w' ⟨rfl, rfl⟩
      go_wp2_with fail
      refine (SI _ (h.below bE)).mono ?_
      rintro e w2 ⟨a2, m2, c2, rfl, own2, b2⟩
      replace x0 := keep_cell b2 x0
      replace x1 := keep_cell b2 x1
      replace x2 := keep_cell b2 x2
      replace f0 := ((bcell b2).2 w.heap.size 0 hz).trans f0
      replace f1 := ((bcell b2).2 w.heap.size 1 hz).trans f1
      replace f2 := ((bcell b2).2 w.heap.size 2 hz).trans f2
      have hz2 := lt_of_cell x0
      have bF := bE.trans (b2.mono bE.size)
      clear SI b2 own2
      go_wp2
      refine bodyPost_ret (v := .agg #[.int .i64 yc, .slice none 0 0, .slice none 0 0]) (by simp [results, Try.results14, go_sem, x0, x1, x2, hz2]) rfl ⟨none, 0, 0, none, 0, 0, by rw [HX1.out], ?_, ?_⟩
      · rw [HX1.out]
        exact OwnU.none _ _
      · exact Below.alloc (((bF.setCell (p := ⟨w.heap.size, 0, none⟩) (Nat.le_refl _) _).setCell (p := ⟨w.heap.size, 1, none⟩) (Nat.le_refl _) _).setCell (p := ⟨w.heap.size, 2, none⟩) (Nat.le_refl _) _) (by simp; omega) _
end Go.Proofs.Ythfanfnbjldddaa


/- One step back, of the program. -/
namespace Go.Proofs.Ythfanfnbjldddaa
open Go.RowKit

theorem Try.info41 : (Try.prog.info? 41).map (fun i => (i.zero, i.size, i.bytes)) = some (some (.agg #[.int .i64 0, .int .i64 0, .int .i64 0, .bool false, .int .i64 0, .bool false, .int .i64 0]), 7, 56) := by kernel_rfl
theorem rc7_one (rs : List Ch.Rec) : ∀ u ∈ rc7 rs, u.oneCell' = true := by
  intro u hu
  unfold rc7 at hu
  obtain ⟨r, _, hr⟩ := List.mem_flatMap.1 hu
  simp only [c7, List.mem_cons, List.not_mem_nil, or_false] at hr
  rcases hr with rfl | rfl | rfl | rfl | rfl | rfl | rfl <;> rfl
/-- A record that was just made, as a list of one. -/
theorem new_rec {w : World} {r : Ch.Rec} {t : TypeId} {H : Nat} (hH : H = w.heap.size) : CellsAt (w.alloc (.cells #[.int .i64 r.kd, .int .i64 r.tx, .int .i64 r.ky, .bool r.hd, .int .i64 r.ol, .bool r.hs, .int .i64 r.nw] t)) (some ⟨H, 0, none⟩) (1 * 7) (rc7 [r]) := by
  subst hH
  refine ⟨rfl, fun _ => ⟨_, _, rfl, fun i hi => ?_⟩⟩
  rw [Nat.zero_add]
  have := cell_of_row (w.alloc (.cells #[.int .i64 r.kd, .int .i64 r.tx, .int .i64 r.ky, .bool r.hd, .int .i64 r.ol, .bool r.hs, .int .i64 r.nw] t)) _ i _ _ _ (heap_alloc_new w _)
  rw [this]
  simp [rc7, c7]
/-- One record appended to records of one's own. -/
theorem run_appRc {w : World} {B : Nat} {v : Value} {n ty : Nat} {rs : List Ch.Rec} {g c : Nat} {r : Ch.Rec} (hown : w.ownsRow B 41 7 v n (rc7 rs)) (hc : CellsAt w (some ⟨g, 0, none⟩) (1 * 7) (rc7 [r])) (hn : n ≤ 1048576) (hbase : B ≤ w.heap.size) :
    ∃ a' c' w', (Builtin.append_ #[27, 27] ty #[v, .slice (some ⟨g, 0, none⟩) 1 c]).run Try.prog w = .ok (.slice a' (n + 1) c') w' ∧ w'.ownsRow B 41 7 (.slice a' (n + 1) c') (n + 1) (rc7 (rs ++ [r])) ∧ w.grownBy w' v.ownBlock ∧
      ∀ g, (Value.slice a' (n + 1) c').ownBlock = some g → v.ownBlock = some g ∨ w.heap.size ≤ g := by
  obtain ⟨i0, hi, hz0, hz1, hz2⟩ := info_parts Try.info41
  obtain ⟨v', w', hr, h2, h3, _, h5⟩ := run_append_own_at (P := Try.prog) w B 27 ty 41 i0 _ 7 56 Try.underlying27 hi hz0 hz1 hz2 rfl (by omega) v n (rc7 rs) hown ⟨g, 0, none⟩ 1 c (rc7 [r]) hc.1 (fun j u hj => by
      have hjl : j < (rc7 [r]).length := (List.getElem?_eq_some_iff.1 hj).1
      have hl := hc.1
      obtain ⟨b, off, ha, hcc⟩ := hc.2 (by omega)
      simp only [Option.some.injEq, Addr.mk.injEq, and_true] at ha
      obtain ⟨rfl, rfl⟩ := ha
      have e : (⟨g, 0, none⟩ : Addr).add j = ⟨g, 0 + j, none⟩ := by
        unfold Addr.add
        split
        · next h0 => subst h0; rfl
        · rfl
      rw [e, hcc j (by omega), hj]) (rc7_one [r]) (by unfold maxLen; omega) (by omega) hbase
  obtain ⟨a', c', rfl⟩ := owns_shape h2
  refine ⟨a', c', w', hr, by rw [rc7_snoc]; simpa [rc7] using h2, h3, fun g hg => ?_⟩
  rcases h5 with h5 | h5
  · exact .inl (by rw [← h5]; exact hg)
  · right
    rw [h5] at hg
    simp at hg
    omega
theorem step_appRc {ops : Array Oper} {o : Oper} {a : Act} {w : World} {K : Act → World → Prop} {Q : Exit → Act → World → Prop} {E : Prop} (s x : Operand)
    (ho : o.op = .call { callee := .builtin .append, args := #[s, x], argTypes := #[27, 27] }) (hgd : o.guard = none)
    (B : Nat) (v : Value) (n : Nat) (rs : List Ch.Rec) (g c : Nat) (r : Ch.Rec) (hs : a.eval s = v) (hx : a.eval x = .slice (some ⟨g, 0, none⟩) 1 c)
    (hown : w.ownsRow B 41 7 v n (rc7 rs)) (hc : CellsAt w (some ⟨g, 0, none⟩) (1 * 7) (rc7 [r])) (hn : n ≤ 1048576) (hbase : B ≤ w.heap.size)
    (hK : ∀ a' c' w', w'.ownsRow B 41 7 (.slice a' (n + 1) c') (n + 1) (rc7 (rs ++ [r])) → w.grownBy w' v.ownBlock → (∀ g, (Value.slice a' (n + 1) c').ownBlock = some g → v.ownBlock = some g ∨ w.heap.size ≤ g) → K (a.put o.dst (.slice a' (n + 1) c')) w') :
    if Region.wanted o (yielded ops a.tmps) = true then Oper.wp Try.prog o a w K Q else E := by
  have hw : Region.wanted o (yielded ops a.tmps) = true := by simp [Region.wanted, hgd]
  rw [if_pos hw]
  obtain ⟨a', c', w', hr, h2, h3, h4⟩ := run_appRc (ty := o.type) (c := c) hown hc hn hbase
  exact Lib.wp_append_run w s x _ _ ho _ _ hs hx _ _ hr (hK a' c' w' h2 h3 h4)
theorem wpList_appRc {ops : Array Oper} {rest : List Oper} {o : Oper} {a : Act} {w : World} {Q : Exit → Act → World → Prop} (s x : Operand)
    (ho : o.op = .call { callee := .builtin .append, args := #[s, x], argTypes := #[27, 27] }) (hgd : o.guard = none)
    (B : Nat) (v : Value) (n : Nat) (rs : List Ch.Rec) (g c : Nat) (r : Ch.Rec) (hs : a.eval s = v) (hx : a.eval x = .slice (some ⟨g, 0, none⟩) 1 c)
    (hown : w.ownsRow B 41 7 v n (rc7 rs)) (hc : CellsAt w (some ⟨g, 0, none⟩) (1 * 7) (rc7 [r])) (hn : n ≤ 1048576) (hbase : B ≤ w.heap.size)
    (hK : ∀ a' c' w', w'.ownsRow B 41 7 (.slice a' (n + 1) c') (n + 1) (rc7 (rs ++ [r])) → w.grownBy w' v.ownBlock → (∀ g, (Value.slice a' (n + 1) c').ownBlock = some g → v.ownBlock = some g ∨ w.heap.size ≤ g) → wpList Try.prog ops Q rest (a.put o.dst (.slice a' (n + 1) c')) w') :
    wpList Try.prog ops Q (o :: rest) a w := by
  obtain ⟨a', c', w', hr, h2, h3, h4⟩ := run_appRc (ty := o.type) (c := c) hown hc hn hbase
  exact Lib.wpList_append_run w hgd s x _ _ ho _ _ hs hx _ _ hr (hK a' c' w' h2 h3 h4)

theorem rowThree {W : World} {g : Nat} {t : TypeId} {u0 u1 u2 : Value} (h : W.heap[g]? = some (.cells #[u0, u1, u2] t (0, 0))) :
    W.cell? ⟨g, 0, none⟩ = some u0 ∧ W.cell? ⟨g, 1, none⟩ = some u1 ∧ W.cell? ⟨g, 2, none⟩ = some u2 ∧ W.frozen? ⟨g, 0, none⟩ = false ∧ W.frozen? ⟨g, 1, none⟩ = false ∧ W.frozen? ⟨g, 2, none⟩ = false :=
  ⟨cell_of_row _ _ _ _ _ _ h, cell_of_row _ _ _ _ _ _ h, cell_of_row _ _ _ _ _ _ h, by simp [World.frozen?, h], by simp [World.frozen?, h], by simp [World.frozen?, h]⟩

/-- What a step back leaves. -/
def BackPost (tx c : Int) (ls : List (List Ch.Row)) (rs : List Ch.Rec) (b : Ch.Bf) (B : Nat) (rv : Value) (w : World) (e : Ending) (w' : World) : Prop :=
  ∃ a' m' c' r' p' q', e = .returned (.agg #[.int .i64 (Ch.backOne tx (c, ls, rs) b).1, .slice a' m' c', .slice r' p' q']) ∧ OwnU w' B (.slice a' m' c') m' (Ch.backOne tx (c, ls, rs) b).2.1 (.slice r' p' q') p' (Ch.backOne tx (c, ls, rs) b).2.2 ∧ w.grownBy w' rv.ownBlock ∧ (∀ g, (Value.slice r' p' q').ownBlock = some g → rv.ownBlock = some g ∨ w.heap.size ≤ g)

theorem grown_of_below {w w' : World} (h : Below w.heap.size w w') (row : Option Nat) : w.grownBy w' row := ⟨h.os, h.tape, h.output, h.size, fun k hk _ => h.block k hk⟩

set_option linter.unusedSimpArgs false in
set_option maxRecDepth 20000 in
set_option maxHeartbeats 4000000 in
theorem setBack_code (c tx : Int) (bk : Int) (bh : Bool) (bv : Int) (a r : Option Addr) (m cap p q B : Nat) (ls : List (List Ch.Row)) (rs : List Ch.Rec) (w : World) (U : OwnU w B (.slice a m cap) m ls (.slice r p q) p rs) (hc : (c != 0) = true) :
    Calls Try.prog 115 #[.agg #[.int .i64 c, .slice a m cap, .slice r p q], .int .i64 tx, .agg #[.int .i64 bk, .bool bh, .int .i64 bv]] w (BackPost tx c ls rs ⟨bk, bh, bv⟩ B (.slice r p q) w) := by
  unfold BackPost
  rw [Ch.back_code hc]
  go_enter Try.func115, Try.ntmps115
  go_wp2
  have k : Below w.heap.size w (((w.alloc (.cells #[.int .i64 c, .slice a m cap, .slice r p q] 29)).alloc (.cells #[.int .i64 bk, .bool bh, .int .i64 bv] 32)).alloc (.cells #[.int .i64 c, .slice a m cap, .slice r p q] 29)) := (((Below.refl _ _).alloc (Nat.le_refl _) _).alloc (by simp) _).alloc (by simp; omega) _
  exact bodyPost_ret (v := .agg #[.int .i64 c, .slice a m cap, .slice r p q]) (by simp [results, Try.results115, go_sem]) rfl ⟨a, m, cap, r, p, q, rfl, U.below k, grown_of_below k _, fun g hg => .inl hg⟩
set_option linter.unusedSimpArgs false in
set_option maxRecDepth 20000 in
set_option maxHeartbeats 4000000 in
theorem setBack_many (tx : Int) (bk : Int) (bh : Bool) (bv : Int) (a r : Option Addr) (m cap p q B : Nat) (ls : List (List Ch.Row)) (rs : List Ch.Rec) (w : World) (U : OwnU w B (.slice a m cap) m ls (.slice r p q) p rs) (hB : B ≤ w.heap.size) (hs : Ch.lvSize ls ≤ 1048576) {c2 : Int} (hX : Ch.setR ls tx bk bh bv = (c2, [], [])) (hc : (c2 != 0) = true) :
    Calls Try.prog 115 #[.agg #[.int .i64 0, .slice a m cap, .slice r p q], .int .i64 tx, .agg #[.int .i64 bk, .bool bh, .int .i64 bv]] w (BackPost tx 0 ls rs ⟨bk, bh, bv⟩ B (.slice r p q) w) := by
  unfold BackPost
  rw [Ch.back_many (b := ⟨bk, bh, bv⟩) (by rw [hX]) hc]
  have b0 : Below w.heap.size w (((w.alloc (.cells #[.int .i64 0, .slice a m cap, .slice r p q] 29)).alloc (.cells #[.int .i64 bk, .bool bh, .int .i64 bv] 32)).alloc (.cells #[.int .i64 0, .slice none 0 0, .slice none 0 0] 29)) := (((Below.refl _ _).alloc (Nat.le_refl _) _).alloc (by simp) _).alloc (by simp; omega) _
  have SI := implSetValue_any a m cap tx bk bh bv ls _ ((U.below b0).lv hs) hs
  have hD0 := block_below (((Below.refl _ _).alloc (Nat.le_refl _) (.cells #[.int .i64 bk, .bool bh, .int .i64 bv] 32)).alloc (by simp) (.cells #[.int .i64 0, .slice none 0 0, .slice none 0 0] 29)) (heap_alloc_new w (.cells #[.int .i64 0, .slice a m cap, .slice r p q] 29))
  have hR0 := heap_alloc_new ((w.alloc (.cells #[.int .i64 0, .slice a m cap, .slice r p q] 29)).alloc (.cells #[.int .i64 bk, .bool bh, .int .i64 bv] 32)) (.cells #[.int .i64 0, .slice none 0 0, .slice none 0 0] 29)
  rw [show ((w.alloc (.cells #[.int .i64 0, .slice a m cap, .slice r p q] 29)).alloc (.cells #[.int .i64 bk, .bool bh, .int .i64 bv] 32)).heap.size = w.heap.size + 2 by simp] at hR0
  rw [hX] at SI
  go_enter Try.func115, Try.ntmps115
  go_wp2_with fail
  refine SI.mono ?_
  rintro e w1 ⟨a2, m2, c3, r2, p2, q2, rfl, U2, b1⟩
  have hR1 := block_below b1 hR0
  have z1 := b1.size
  simp at z1
  obtain ⟨x0, x1, x2, f0, f1, f2⟩ := rowThree hR1
  have hz := lt_of_cell x0
  have bE := b0.trans (b1.mono b0.size)
  have hzb : w.heap.size + 2 < w1.heap.size + 1 := by omega
  clear SI hD0 hR0 hR1
  go_wp2
  refine bodyPost_ret (v := .agg #[.int .i64 c2, .slice a2 m2 c3, .slice r2 p2 q2]) (by simp [results, Try.results115, go_sem, x0, x1, x2, hz]) rfl ⟨a2, m2, c3, r2, p2, q2, rfl, ?_, ?_, fun g hg => ?_⟩
  · obtain ⟨vs, lo, hi, h1, h2, h3, h4, h5, h6, h7⟩ := U2
    simp at h3
    have hlow : w.heap.size + 2 < w.heap.size + 3 := by omega
    have hBB : B ≤ w.heap.size + 3 := by omega
    have h1' : OwnV w1 (w.heap.size + 3) (.slice a2 m2 c3) m2 vs [] := by simpa using h1
    have h2' : w1.ownsRow (w.heap.size + 3) 41 7 (.slice r2 p2 q2) p2 (rc7 []) := by simpa using h2
    have h1s := ((h1'.store3 (q := w.heap.size + 2) (o := 0) hlow (.int .i64 c2)).store3 (q := w.heap.size + 2) (o := 1) hlow (.slice a2 m2 c3)).store3 (q := w.heap.size + 2) (o := 2) hlow (.slice r2 p2 q2)
    have h2s := ownsRow_setCell_below (ownsRow_setCell_below (ownsRow_setCell_below h2' (a := ⟨w.heap.size + 2, 0, none⟩) hlow (.int .i64 c2)) (a := ⟨w.heap.size + 2, 1, none⟩) hlow (.slice a2 m2 c3)) (a := ⟨w.heap.size + 2, 2, none⟩) hlow (.slice r2 p2 q2)
    have kk := fun W : World => (Below.refl W.heap.size W).alloc (Nat.le_refl _) (.cells #[.int .i64 c2, .slice a2 m2 c3, .slice r2 p2 q2] 29)
    exact (OwnU.below ⟨vs, lo, hi, h1s, h2s, h3, by simpa using h4, h5, h6, h7⟩ (kk _)).base hBB
  · refine grown_of_below (Below.alloc (((bE.setCell (p := ⟨w.heap.size + 2, 0, none⟩) (Nat.le_add_right _ _) _).setCell (p := ⟨w.heap.size + 2, 1, none⟩) (Nat.le_add_right _ _) _).setCell (p := ⟨w.heap.size + 2, 2, none⟩) (Nat.le_add_right _ _) _) (by simp; omega) _) _
  · obtain ⟨vs, lo, hi, h1, h2, _⟩ := U2
    have := (owns_lt h2 g hg).1
    simp at this
    exact .inr (by omega)

set_option linter.unusedSimpArgs false in
set_option maxRecDepth 20000 in
set_option maxHeartbeats 4000000 in
theorem setBack_ok (tx : Int) (bk : Int) (bh : Bool) (bv : Int) (a r : Option Addr) (m cap p q B : Nat) (ls : List (List Ch.Row)) (rs : List Ch.Rec) (w : World) (U : OwnU w B (.slice a m cap) m ls (.slice r p q) p rs) (hB : B ≤ w.heap.size) (hs : Ch.lvSize ls ≤ 1048576) (hp : p ≤ 1048576) {l2 : List (List Ch.Row)} {rh : Bool} {ro : Int} (hX : Ch.setR ls tx bk bh bv = (0, l2, [⟨2, tx, bk, rh, ro, bh, bv⟩])) (hX3 : Ch.setRec 3 ls tx bk bh bv = ⟨3, tx, bk, rh, ro, bh, bv⟩) :
    Calls Try.prog 115 #[.agg #[.int .i64 0, .slice a m cap, .slice r p q], .int .i64 tx, .agg #[.int .i64 bk, .bool bh, .int .i64 bv]] w (BackPost tx 0 ls rs ⟨bk, bh, bv⟩ B (.slice r p q) w) := by
  unfold BackPost
  rw [Ch.back_ok (b := ⟨bk, bh, bv⟩) (by rw [hX])]
  simp only
  rw [hX3]
  obtain ⟨vs0, lo0, hi0, g1, g2, g3, g4, g5, g6, g7⟩ := U
  have U : OwnU w B (.slice a m cap) m ls (.slice r p q) p rs := ⟨vs0, lo0, hi0, g1, g2, g3, g4, g5, g6, g7⟩
  have b0 : Below w.heap.size w (((w.alloc (.cells #[.int .i64 0, .slice a m cap, .slice r p q] 29)).alloc (.cells #[.int .i64 bk, .bool bh, .int .i64 bv] 32)).alloc (.cells #[.int .i64 0, .slice none 0 0, .slice none 0 0] 29)) := (((Below.refl _ _).alloc (Nat.le_refl _) _).alloc (by simp) _).alloc (by simp; omega) _
  have SI := implSetValue_any a m cap tx bk bh bv ls _ ((U.below b0).lv hs) hs
  have hD0 := block_below (((Below.refl _ _).alloc (Nat.le_refl _) (.cells #[.int .i64 bk, .bool bh, .int .i64 bv] 32)).alloc (by simp) (.cells #[.int .i64 0, .slice none 0 0, .slice none 0 0] 29)) (heap_alloc_new w (.cells #[.int .i64 0, .slice a m cap, .slice r p q] 29))
  have hR0 := heap_alloc_new ((w.alloc (.cells #[.int .i64 0, .slice a m cap, .slice r p q] 29)).alloc (.cells #[.int .i64 bk, .bool bh, .int .i64 bv] 32)) (.cells #[.int .i64 0, .slice none 0 0, .slice none 0 0] 29)
  rw [show ((w.alloc (.cells #[.int .i64 0, .slice a m cap, .slice r p q] 29)).alloc (.cells #[.int .i64 bk, .bool bh, .int .i64 bv] 32)).heap.size = w.heap.size + 2 by simp] at hR0
  rw [hX] at SI ⊢
  simp only at SI ⊢
  clear hX hX3 g1 g3 g4 g5 g6 g7
  have K2 := owns_lt g2
  go_enter Try.func115, Try.ntmps115
  go_wp2_with fail
  refine SI.mono ?_
  rintro e w1 ⟨a2, m2, c2, r2, p2, q2, rfl, U2, b1⟩
  have hp2 : p2 = 1 := U2.len.2
  subst hp2
  obtain ⟨b, off, rfl, v0, v1, v2, v3, v4, v5, v6⟩ := U2.rc.rec (k := 0) (by omega)
  simp only [Nat.zero_mul, Nat.add_zero, List.getD_cons_zero] at v0 v1 v2 v3 v4 v5 v6
  have hvb := lt_of_cell v0
  have hR1 := block_below b1 hR0
  have hD1 := block_below b1 hD0
  have z1 := b1.size
  simp at z1
  have bE := b0.trans (b1.mono b0.size)
  have hz0 : w.heap.size < w1.heap.size := by omega
  have hz2 : w.heap.size + 2 < w1.heap.size := by omega
  have hn0 : ¬ w.heap.size = w1.heap.size := by omega
  clear SI hD0 hR0
  have kS : Below w1.heap.size w1 ((w1.alloc (.cells #[.int .i64 0, .slice a2 m2 c2, .slice (some ⟨b, off, none⟩) 1 q2] 29)).alloc (.cells #[.int .i64 3, .int .i64 tx, .int .i64 bk, .bool rh, .int .i64 ro, .bool bh, .int .i64 bv] 41)) := ((Below.refl _ _).alloc (Nat.le_refl _) _).alloc (by simp) _
  have s1 : ((w1.alloc (.cells #[.int .i64 0, .slice a2 m2 c2, .slice (some ⟨b, off, none⟩) 1 q2] 29)).alloc (.cells #[.int .i64 3, .int .i64 tx, .int .i64 bk, .bool rh, .int .i64 ro, .bool bh, .int .i64 bv] 41)).cell? ⟨w1.heap.size, 1, none⟩ = some (.slice a2 m2 c2) := keep_cell ((Below.refl _ _).alloc (Nat.le_refl _) _) (by simp [go_sem])
  obtain ⟨⟨k0, k1, k2, k3, k4, k5, k6⟩, _⟩ := rowSeven (heap_alloc_new (w1.alloc (.cells #[.int .i64 0, .slice a2 m2 c2, .slice (some ⟨b, off, none⟩) 1 q2] 29)) (.cells #[.int .i64 3, .int .i64 tx, .int .i64 bk, .bool rh, .int .i64 ro, .bool bh, .int .i64 bv] 41))
  rw [show (w1.alloc (.cells #[.int .i64 0, .slice a2 m2 c2, .slice (some ⟨b, off, none⟩) 1 q2] 29)).heap.size = w1.heap.size + 1 by simp] at k0 k1 k2 k3 k4 k5 k6
  have d2 := keep_cell kS (rowThree hD1).2.2.1
  have kD : Below w1.heap.size w1 ((w1.alloc (.cells #[.int .i64 0, .slice a2 m2 c2, .slice (some ⟨b, off, none⟩) 1 q2] 29)).alloc (.cells #[.int .i64 3, .int .i64 tx, .int .i64 bk, .bool rh, .int .i64 ro, .bool bh, .int .i64 bv] 41)).drew := kS.drew
  have zV : ((w1.alloc (.cells #[.int .i64 0, .slice a2 m2 c2, .slice (some ⟨b, off, none⟩) 1 q2] 29)).alloc (.cells #[.int .i64 3, .int .i64 tx, .int .i64 bk, .bool rh, .int .i64 ro, .bool bh, .int .i64 bv] 41)).drew.heap.size = w1.heap.size + 2 := by simp [World.drew]
  go_wp2
  refine wp_region_noPanic ?_
  refine wp_region_held_drew (S := fun W' => W'.cell? ⟨w1.heap.size, 1, none⟩ = some (.slice a2 m2 c2) ∧ W'.cell? ⟨w.heap.size, 2, none⟩ = some (.slice r p q) ∧ W'.cell? ⟨w1.heap.size + 1, 0, none⟩ = some (.int .i64 3) ∧ W'.cell? ⟨w1.heap.size + 1, 1, none⟩ = some (.int .i64 tx) ∧ W'.cell? ⟨w1.heap.size + 1, 2, none⟩ = some (.int .i64 bk) ∧ W'.cell? ⟨w1.heap.size + 1, 3, none⟩ = some (.bool rh) ∧ W'.cell? ⟨w1.heap.size + 1, 4, none⟩ = some (.int .i64 ro) ∧ W'.cell? ⟨w1.heap.size + 1, 5, none⟩ = some (.bool bh) ∧ W'.cell? ⟨w1.heap.size + 1, 6, none⟩ = some (.int .i64 bv)) (by kernel_rfl) (⟨s1, d2, k0, k1, k2, k3, k4, k5, k6⟩) (fun hH => ?_)
  generalize ((w1.alloc (.cells #[.int .i64 0, .slice a2 m2 c2, .slice (some ⟨b, off, none⟩) 1 q2] 29)).alloc (.cells #[.int .i64 3, .int .i64 tx, .int .i64 bk, .bool rh, .int .i64 ro, .bool bh, .int .i64 bv] 41)).drew = V at *
  clear s1 d2 k0 k1 k2 k3 k4 k5 k6 kS
  have kN : Below V.heap.size V (V.alloc (.cells #[.int .i64 3, .int .i64 tx, .int .i64 bk, .bool rh, .int .i64 ro, .bool bh, .int .i64 bv] 41)) := (Below.refl _ _).alloc (Nat.le_refl _) _
  have bV := bE.trans (kD.mono bE.size)
  have bN := bV.trans (kN.mono bV.size)
  have oN := owns_below g2 bN
  have hC := new_rec (w := V) (r := ⟨3, tx, bk, rh, ro, bh, bv⟩) (t := 41) (H := w1.heap.size + 2) zV.symm
  have hb3 : B ≤ (V.alloc (.cells #[.int .i64 3, .int .i64 tx, .int .i64 bk, .bool rh, .int .i64 ro, .bool bh, .int .i64 bv] 41)).heap.size := Nat.le_trans hB bN.size
  have hRN := block_below kN (block_below kD hR1)
  have U2N := (U2.below kD).below kN
  have ne0 : (Value.slice r p q).ownBlock ≠ some w.heap.size := fun e => by have := (K2 _ e).2; omega
  have ne1 : (Value.slice r p q).ownBlock ≠ some w1.heap.size := fun e => by have := (K2 _ e).2; omega
  have ne2 : (Value.slice r p q).ownBlock ≠ some (w1.heap.size + 1) := fun e => by have := (K2 _ e).2; omega
  have ne3 : (Value.slice r p q).ownBlock ≠ some (w.heap.size + 2) := fun e => by have := (K2 _ e).2; omega
  refine hTake (i := 0) (v := ?_) rfl (by kernel_rfl) (by kernel_rfl) (by kernel_rfl) (by rfl) ?_ hH ?_
  rotate_left
  · intro W hW; (try dsimp only at hW); go_simp <;> with_reducible rfl
  simp only [Act.put, List.setIfInBounds_toArray, List.set_cons_zero, List.set_cons_succ]
  refine hTake (i := 1) (v := ?_) rfl (by kernel_rfl) (by kernel_rfl) (by kernel_rfl) (by rfl) ?_ hH ?_
  rotate_left
  · intro W hW; (try dsimp only at hW); go_simp <;> with_reducible rfl
  simp only [Act.put, List.setIfInBounds_toArray, List.set_cons_zero, List.set_cons_succ]
  refine hTake (i := 2) (v := ?_) rfl (by kernel_rfl) (by kernel_rfl) (by kernel_rfl) (by rfl) ?_ hH ?_
  rotate_left
  · intro W hW; (try dsimp only at hW); go_simp <;> with_reducible rfl
  simp only [Act.put, List.setIfInBounds_toArray, List.set_cons_zero, List.set_cons_succ]
  refine hTake (i := 3) (v := ?_) rfl (by kernel_rfl) (by kernel_rfl) (by kernel_rfl) (by rfl) ?_ hH ?_
  rotate_left
  · intro W hW; (try dsimp only at hW); go_simp <;> with_reducible rfl
  simp only [Act.put, List.setIfInBounds_toArray, List.set_cons_zero, List.set_cons_succ]
  refine hTake (i := 4) (v := ?_) rfl (by kernel_rfl) (by kernel_rfl) (by kernel_rfl) (by rfl) ?_ hH ?_
  rotate_left
  · intro W hW; (try dsimp only at hW); go_simp <;> with_reducible rfl
  simp only [Act.put, List.setIfInBounds_toArray, List.set_cons_zero, List.set_cons_succ]
  refine wpAnyH_ready (rs := [5]) (by kernel_rfl) (by simp) ?_
  refine AllReadyH.cons rfl (fun K hK => ?_) AllReadyH.nil
  go_simp
  refine hK.out _ _ ?_ (fun hH => ?_)
  · exact ⟨keep_cell kN hH.1, keep_cell kN hH.2.1, keep_cell kN hH.2.2.1, keep_cell kN hH.2.2.2.1, keep_cell kN hH.2.2.2.2.1, keep_cell kN hH.2.2.2.2.2.1, keep_cell kN hH.2.2.2.2.2.2.1, keep_cell kN hH.2.2.2.2.2.2.2.1, keep_cell kN hH.2.2.2.2.2.2.2.2⟩
  clear hK K
  refine wpAnyH_ready (rs := [6]) (by kernel_rfl) (by simp) ?_
  refine AllReadyH.cons rfl (fun K hK => ?_) AllReadyH.nil
  refine step_appRc (.tmp 35) (.tmp 37) rfl rfl B (.slice r p q) p rs (w1.heap.size + 2) 1 ⟨3, tx, bk, rh, ro, bh, bv⟩ rfl rfl oN hC hp hb3 ?_
  intro a5 c5 w5 own5 gr5 at5
  have hR5 := block_grown gr5 hRN ne3
  obtain ⟨x0, x1, x2, f0, f1, f2⟩ := rowThree hR5
  have hz5 := lt_of_cell x0
  refine hK.out _ _ ⟨grown_cell gr5 hH.1 ne1, grown_cell gr5 hH.2.1 ne0, grown_cell gr5 hH.2.2.1 ne2, grown_cell gr5 hH.2.2.2.1 ne2, grown_cell gr5 hH.2.2.2.2.1 ne2, grown_cell gr5 hH.2.2.2.2.2.1 ne2, grown_cell gr5 hH.2.2.2.2.2.2.1 ne2, grown_cell gr5 hH.2.2.2.2.2.2.2.1 ne2, grown_cell gr5 hH.2.2.2.2.2.2.2.2 ne2⟩ (fun hH => ?_)
  clear hK K
  simp only [Act.put, List.setIfInBounds_toArray, List.set_cons_zero, List.set_cons_succ]
  refine hTake (i := 7) (v := ?_) rfl (by kernel_rfl) (by kernel_rfl) (by kernel_rfl) (by rfl) ?_ hH ?_
  rotate_left
  · intro W hW; (try dsimp only at hW); go_simp <;> with_reducible rfl
  simp only [Act.put, List.setIfInBounds_toArray, List.set_cons_zero, List.set_cons_succ]
  refine wpAnyH_ready (rs := [8]) (by kernel_rfl) (by simp) ?_
  refine AllReadyH.cons rfl (fun K hK => ?_) AllReadyH.nil
  go_simp
  refine hK.out _ _ ?_ (fun hH => ?_)
  · refine ⟨?_, ?_, ?_, ?_, ?_, ?_, ?_, ?_, ?_⟩ <;> (rw [World.cell?_setCell_other _ _ _ _ (by simp <;> omega), World.cell?_setCell_other _ _ _ _ (by simp <;> omega), World.cell?_setCell_other _ _ _ _ (by simp <;> omega)]; first | exact hH.1 | exact hH.2.1 | exact hH.2.2.1 | exact hH.2.2.2.1 | exact hH.2.2.2.2.1 | exact hH.2.2.2.2.2.1 | exact hH.2.2.2.2.2.2.1 | exact hH.2.2.2.2.2.2.2.1 | exact hH.2.2.2.2.2.2.2.2)
  clear hK K
  refine wpAnyH_done (by kernel_rfl) ?_ _
  refine NoPanic.normal ?_
  have hK2 := hid K2
  have hzN := kN.size
  have hzD := kD.size
  have hlow : w.heap.size + 1 + 1 < w.heap.size + 3 := by omega
  clear hH
  go_wp2
  refine bodyPost_ret (v := .agg #[.int .i64 0, .slice a2 m2 c2, .slice a5 (p + 1) c5]) (by simp [results, Try.results115, go_sem, x0, x1, x2, hz5]) rfl ⟨a2, m2, c2, a5, p + 1, c5, rfl, ?_, ?_, fun g hg => ?_⟩
  · obtain ⟨vs, lo, hi, h1, h2, h3, h4, h5, h6, h7⟩ := U2N
    simp at h3
    obtain ⟨hl, ho, hi', hd, hd'⟩ := h1
    have h1g : OwnV w5 (w.heap.size + 3) (.slice a2 m2 c2) m2 vs l2 := by
      refine ⟨hl, owns_grown (by simpa using ho) gr5 (fun g hg hk => by have := (K2 g hk).2; have := h5 g hg; omega), fun i hlt => ?_, hd, hd'⟩
      obtain ⟨x, e1, e2⟩ := hi' i hlt
      exact ⟨x, e1, owns_grown (by simpa using e2) gr5 (fun g hg hk => by have := (K2 g hk).2; have := h6 i x g e1 hg; omega)⟩
    have h1s := ((h1g.store3 (q := w.heap.size + 1 + 1) (o := 0) hlow (.int .i64 0)).store3 (q := w.heap.size + 1 + 1) (o := 1) hlow (.slice a2 m2 c2)).store3 (q := w.heap.size + 1 + 1) (o := 2) hlow (.slice a5 (p + 1) c5)
    have hne : ∀ g, (Value.slice a5 (p + 1) c5).ownBlock = some g → g ≠ w.heap.size + 1 + 1 := fun g hg => by
      rcases at5 g hg with h | h
      · have := (K2 g h).2; omega
      · omega
    have h2s := owns_set (o := 2) (owns_set (o := 1) (owns_set (o := 0) own5 hne (.int .i64 0)) hne (.slice a2 m2 c2)) hne (.slice a5 (p + 1) c5)
    refine ⟨vs, lo, hi, h1s.base (by omega), h2s, by omega, by have := gr5.size; simp; omega, h5, h6, fun g hg => ?_⟩
    rcases at5 g hg with h | h
    · have := (K2 g h).2; exact .inl (by omega)
    · exact .inr (by omega)
  · have bG := bN.size
    refine ⟨gr5.os.trans bN.os, gr5.tape.trans bN.tape, gr5.output.trans bN.output, by have := gr5.size; simp; omega, fun j hj hne => ?_⟩
    have e1 := (gr5.block j (by omega) hne).trans (bN.block j hj)
    rw [Below.heap_setCell _ _ _ _ (by show j ≠ w.heap.size + 1 + 1; omega), Below.heap_setCell _ _ _ _ (by show j ≠ w.heap.size + 1 + 1; omega), Below.heap_setCell _ _ _ _ (by show j ≠ w.heap.size + 1 + 1; omega)]
    exact e1
  · rcases at5 g hg with h | h
    · exact .inl h
    · exact .inr (by omega)

theorem setBack_any (c : Int) (tx : Int) (bk : Int) (bh : Bool) (bv : Int) (a r : Option Addr) (m cap p q B : Nat) (ls : List (List Ch.Row)) (rs : List Ch.Rec) (w : World) (U : OwnU w B (.slice a m cap) m ls (.slice r p q) p rs) (hB : B ≤ w.heap.size) (hs : Ch.lvSize ls ≤ 1048576) (hp : p ≤ 1048576) :
    Calls Try.prog 115 #[.agg #[.int .i64 c, .slice a m cap, .slice r p q], .int .i64 tx, .agg #[.int .i64 bk, .bool bh, .int .i64 bv]] w (BackPost tx c ls rs ⟨bk, bh, bv⟩ B (.slice r p q) w) := by
  by_cases hc : c = 0
  · subst hc
    by_cases hx : (Ch.setR ls tx bk bh bv).1 = 0
    · refine setBack_ok tx bk bh bv a r m cap p q B ls rs w U hB hs hp (l2 := (Ch.setR ls tx bk bh bv).2.1) (rh := (Ch.bf bk (Ch.has ls bk)).h) (ro := (Ch.bf bk (Ch.has ls bk)).v) ?_ rfl
      have h2 := Ch.setR_rec hx
      generalize Ch.setR ls tx bk bh bv = X at *
      obtain ⟨x1, x2, x3⟩ := X
      simp only at hx h2
      subst hx h2
      rfl
    · refine setBack_many tx bk bh bv a r m cap p q B ls rs w U hB hs (c2 := (Ch.setR ls tx bk bh bv).1) ?_ (by simpa using hx)
      by_cases hf : Ch.setF ls tx [⟨bk, bh, bv⟩] = 0
      · by_cases hm : (Ch.setLs ls bk bh bv).1 = 0
        · rw [Ch.setR_ok hf hm] at hx; exact absurd rfl hx
        · rw [Ch.setR_many hf rfl (by simpa using hm)]
      · rw [Ch.setR_code rfl (by simpa using hf)]
  · exact setBack_code c tx bk bh bv a r m cap p q B ls rs w U (by simpa using hc)
end Go.Proofs.Ythfanfnbjldddaa


/- What is put off: one deferred step, and all of them. -/
namespace Go.Proofs.Ythfanfnbjldddaa
open Go.RowKit

/-- All blocks but R and the records' own are as they were. -/
structure KeptB (R : Nat) (rv : Value) (w w' : World) : Prop where
  os : w'.os = w.os
  tape : w'.tape = w.tape
  output : w'.output = w.output
  size : w.heap.size ≤ w'.heap.size
  block : ∀ k, k < w.heap.size → k ≠ R → some k ≠ rv.ownBlock → w'.heap[k]? = w.heap[k]?

theorem heap_three {w : World} {R : Nat} {t : TypeId} {u0 u1 u2 : Value} (h : w.heap[R]? = some (.cells #[u0, u1, u2] t (0, 0))) (v0 v1 v2 : Value) : (((w.setCell ⟨R, 0, none⟩ v0).setCell ⟨R, 1, none⟩ v1).setCell ⟨R, 2, none⟩ v2).heap[R]? = some (.cells #[v0, v1, v2] t (0, 0)) := by
  have h0 := Joins.block_setCell (i := 0) h v0
  have h1 := Joins.block_setCell (i := 1) h0 v1
  have h2 := Joins.block_setCell (i := 2) h1 v2
  simpa using h2

set_option linter.unusedSimpArgs false in
set_option maxRecDepth 20000 in
set_option maxHeartbeats 2000000 in
theorem back_deferred (R T X : Nat) (c tx bk : Int) (bh : Bool) (bv : Int) (a r : Option Addr) (m cap p q B : Nat) (ls : List (List Ch.Row)) (rs : List Ch.Rec) (u : FrameMode) (w : World)
    (hR : w.heap[R]? = some (.cells #[.int .i64 c, .slice a m cap, .slice r p q] 29 (0, 0))) (hT : w.heap[T]? = some (.cells #[.int .i64 tx] 2 (0, 0))) (hX : w.heap[X]? = some (.cells #[.int .i64 bk, .bool bh, .int .i64 bv] 32 (0, 0)))
    (U : OwnU w B (.slice a m cap) m ls (.slice r p q) p rs) (hRB : R < B) (hB : B ≤ w.heap.size) (hs : Ch.lvSize ls ≤ 1048576) (hp : p ≤ 1048576) :
    CallsD Try.prog 114 #[.pointer (some ⟨R, 0, none⟩), .pointer (some ⟨T, 0, none⟩), .pointer (some ⟨X, 0, none⟩)] u w fun e u' w' => u' = u ∧ e = .returned (.tuple #[]) ∧ ∃ a' m' c' r' p' q', w'.heap[R]? = some (.cells #[.int .i64 (Ch.backOne tx (c, ls, rs) ⟨bk, bh, bv⟩).1, .slice a' m' c', .slice r' p' q'] 29 (0, 0)) ∧ OwnU w' B (.slice a' m' c') m' (Ch.backOne tx (c, ls, rs) ⟨bk, bh, bv⟩).2.1 (.slice r' p' q') p' (Ch.backOne tx (c, ls, rs) ⟨bk, bh, bv⟩).2.2 ∧ KeptB R (.slice r p q) w w' ∧ (∀ g, (Value.slice r' p' q').ownBlock = some g → (Value.slice r p q).ownBlock = some g ∨ w.heap.size ≤ g) := by
  obtain ⟨x0, x1, x2, f0, f1, f2⟩ := rowThree hR
  obtain ⟨y0, y1, y2, _, _, _⟩ := rowThree hX
  have t0 : w.cell? ⟨T, 0, none⟩ = some (.int .i64 tx) := cell_of_row _ _ _ _ _ _ hT
  have SI := setBack_any c tx bk bh bv a r m cap p q B ls rs w U hB hs hp
  have hrR : (Value.slice r p q).ownBlock ≠ some R := by
    obtain ⟨vs, lo, hi, h1, h2, _⟩ := U
    exact fun e => by have := (owns_lt h2 R e).1; omega
  unfold BackPost at SI
  generalize Ch.backOne tx (c, ls, rs) ⟨bk, bh, bv⟩ = st at *
  go_enter_d Try.func114, Try.ntmps114
  go_wp2_with fail
  refine SI.mono ?_
  rintro e w1 ⟨a', m', c', r', p', q', rfl, U1, gr1, at1⟩
  have hR1 := block_grown gr1 hR hrR
  obtain ⟨x0, x1, x2, f0, f1, f2⟩ := rowThree hR1
  go_wp2
  refine ⟨rfl, .tuple #[], by simp [results, Try.results114, go_sem], rfl, a', m', c', r', p', q', heap_three hR1 _ _ _, ?_, ?_, at1⟩
  · obtain ⟨vs, lo, hi, h1, h2, h3, h4, h5⟩ := U1
    exact ⟨vs, lo, hi, ((h1.store3 hRB _).store3 hRB _).store3 hRB _, ownsRow_setCell_below (ownsRow_setCell_below (ownsRow_setCell_below h2 (a := ⟨R, 0, none⟩) hRB _) (a := ⟨R, 1, none⟩) hRB _) (a := ⟨R, 2, none⟩) hRB _, h3, by simpa using h4, h5⟩
  · refine ⟨gr1.os, gr1.tape, gr1.output, by simpa using gr1.size, fun k hk hne hne2 => ?_⟩
    rw [Below.heap_setCell _ _ _ _ (by exact hne), Below.heap_setCell _ _ _ _ (by exact hne), Below.heap_setCell _ _ _ _ (by exact hne)]
    exact gr1.block k hk hne2

/-- What is put off for the first k of them, the last one first. -/
def putOff (R T H : Nat) : Nat → List Deferred
  | 0 => []
  | k + 1 => { target := .fn (.func 114) #[.pointer (some ⟨R, 0, none⟩), .pointer (some ⟨T, 0, none⟩), .pointer (some ⟨H + k, 0, none⟩)], args := #[] } :: putOff R T H k

/-- All that is put off, done. -/
theorem leaves_back (B0 R T H B N : Nat) (hB0 : B0 ≤ R) (tx : Int) (ls : List (List Ch.Row)) (bs : List Ch.Bf) (hg : Ch.leavesFault ls = 0) (hN : bs.length ≤ N) (hN4 : N ≤ 1000) (hRB : R < B) (hTB : T < B) (hTR : T ≠ R) (hBH : B ≤ H) (tmps : Array Value) (Q : Ending → World → Prop) (W : World)
    (hres : ∀ w' x0 x1 x2, w'.heap[R]? = some (.cells #[x0, x1, x2] 29 (0, 0)) → (results Try.f68 tmps).run Try.prog w' = .ok (.agg #[x0, x1, x2]) w')
    (hQ : ∀ w' a m cap r p q, OwnU w' B (.slice a m cap) m (Ch.backAll tx ls bs).2.1 (.slice r p q) p (Ch.backAll tx ls bs).2.2 → Below B0 W w' → Q (.returned (.agg #[.int .i64 (Ch.backAll tx ls bs).1, .slice a m cap, .slice r p q])) w') :
    ∀ (k : Nat), k ≤ bs.length → ∀ (w : World) (a : Option Addr) (m cap : Nat) (r : Option Addr) (p q : Nat), w.heap[R]? = some (.cells #[.int .i64 (Ch.backAll tx ls (bs.drop k)).1, .slice a m cap, .slice r p q] 29 (0, 0)) → w.heap[T]? = some (.cells #[.int .i64 tx] 2 (0, 0)) →
      (∀ i, i < k → w.heap[H + i]? = some (.cells #[.int .i64 (bs.getD i Ch.Bf.zero).k, .bool (bs.getD i Ch.Bf.zero).h, .int .i64 (bs.getD i Ch.Bf.zero).v] 32 (0, 0))) →
      OwnU w B (.slice a m cap) m (Ch.backAll tx ls (bs.drop k)).2.1 (.slice r p q) p (Ch.backAll tx ls (bs.drop k)).2.2 → (∀ g, (Value.slice r p q).ownBlock = some g → H + bs.length ≤ g) → H + bs.length ≤ w.heap.size → Below B0 W w → W.heap.size ≤ w.heap.size → B0 ≤ W.heap.size →
      Leaves Try.prog Try.f68 tmps Q (putOff R T H k) .returning w := by
  intro k
  induction k with
  | zero =>
    intro _ w a m cap r p q hR hT hX U hrec hsz bel _ _
    rw [List.drop_zero] at hR U
    refine ⟨_, hres w _ _ _ hR, ?_⟩
    exact hQ w a m cap r p q U bel
  | succ k ih =>
    intro hk w a m cap r p q hR hT hX U hrec hsz bel hW hBW
    have hkl : k < bs.length := by omega
    have keep := Ch.back_keeps (tx := tx) hg (bs.drop (k + 1))
    have hlen : p ≤ 1048576 := by
      have := U.len.2
      have h2 := keep.2.1
      simp at h2
      omega
    have hnext := Ch.back_next (tx := tx) (ls := ls) hkl
    generalize hst : Ch.backAll tx ls (bs.drop (k + 1)) = st at *
    obtain ⟨c, l, rs⟩ := st
    have hXk := hX k (by omega)
    unfold putOff
    refine leaves_cons (f := 114) (args := #[.pointer (some ⟨R, 0, none⟩), .pointer (some ⟨T, 0, none⟩), .pointer (some ⟨H + k, 0, none⟩)]) (by simp) (by simp [go_sem]) ?_
    refine (back_deferred R T (H + k) c tx _ _ _ a r m cap p q B l rs .returning w hR hT hXk U hRB (by omega) keep.1 hlen).mono ?_
    rintro e u' w' ⟨rfl, rfl, a', m', c', r', p', q', hR', U', kb, at'⟩
    rw [← hnext] at hR' U'
    have hne : ∀ j, j < H + bs.length → some j ≠ (Value.slice r p q).ownBlock := fun j hj e => by have := hrec j e.symm; omega
    refine ih (by omega) w' a' m' c' r' p' q' hR' ((kb.block T (by omega) hTR (hne T (by omega))).trans hT) (fun i hi => (kb.block (H + i) (by omega) (by omega) (hne (H + i) (by omega))).trans (hX i (by omega))) U' (fun g hg' => ?_) (Nat.le_trans hsz kb.size) ?_ (Nat.le_trans hW kb.size) hBW
    · rcases at' g hg' with h | h
      · exact hrec g h
      · omega
    · refine ⟨kb.os.trans bel.os, kb.tape.trans bel.tape, kb.output.trans bel.output, Nat.le_trans bel.size kb.size, fun j hj => ?_⟩
      exact (kb.block j (by omega) (by omega) (hne j (by omega))).trans (bel.block j hj)
end Go.Proofs.Ythfanfnbjldddaa


/- takenBack and UndoAll of the program. -/
namespace Go.Proofs.Ythfanfnbjldddaa
open Go.RowKit

theorem OwnU.low {w : World} {B m p : Nat} {lv rv : Value} {ls : List (List Ch.Row)} {rs : List Ch.Rec} (h : OwnU w B lv m ls rv p rs) {q o : Nat} (hq : q < B) (u : Value) : OwnU (w.setCell ⟨q, o, Option.none⟩ u) B lv m ls rv p rs := by
  obtain ⟨vs, lo, hi, h1, h2, h3, h4, h5⟩ := h
  exact ⟨vs, lo, hi, h1.store3 hq u, ownsRow_setCell_below h2 (a := ⟨q, o, Option.none⟩) hq u, h3, by simpa using h4, h5⟩
theorem Ch.setF_leaves {ls : List (List Ch.Row)} {tx : Int} {bs : List Ch.Bf} (h : Ch.setF ls tx bs = 0) : Ch.leavesFault ls = 0 := by
  unfold Ch.setF at h
  by_cases h1 : (Ch.leavesFault ls != 0) = true
  · rw [if_pos h1] at h; rw [h] at h1; cases h1
  · simpa using h1
theorem Ch.setF_rest {ls : List (List Ch.Row)} {tx : Int} {bs : List Ch.Bf} (h : Ch.setF ls tx bs = 0) : Ch.inB tx 1 999 = true ∧ Ch.befFault bs = 0 := by
  have hg := Ch.setF_leaves h
  unfold Ch.setF at h
  rw [hg, if_neg (by decide)] at h
  by_cases h2 : Ch.inB tx 1 999 = true
  · rw [if_pos h2] at h; exact ⟨h2, h⟩
  · rw [if_neg h2] at h; cases h
theorem Ch.setF_few {ls : List (List Ch.Row)} {tx : Int} {bs : List Ch.Bf} (h : Ch.setF ls tx bs = 0) : bs.length ≤ 40 := by
  have := (Ch.setF_rest h).2
  unfold Ch.befFault at this
  by_cases hb : 40 < bs.length
  · rw [if_pos hb] at this; cases this
  · omega
theorem heap_mid {w : World} {R : Nat} {t : TypeId} {u0 u1 u2 : Value} (h : w.heap[R]? = some (.cells #[u0, u1, u2] t (0, 0))) (v1 : Value) : (w.setCell ⟨R, 1, none⟩ v1).heap[R]? = some (.cells #[u0, v1, u2] t (0, 0)) := by
  have h1 := Joins.block_setCell (i := 1) h v1
  simpa using h1

set_option linter.unusedSimpArgs false in
set_option maxRecDepth 20000 in
set_option maxHeartbeats 4000000 in
theorem takenBack_any (a : Option Addr) (n cap : Nat) (tx : Int) (ab : Option Addr) (nb cb : Nat) (ls : List (List Ch.Row)) (bs : List Ch.Bf) (w : World) (h : LvAt w a n ls) (hg : Ch.leavesFault ls = 0) (hb : CellsAt w ab (nb * 3) (bfcells bs)) (hnb : nb ≤ 40) :
    Calls Try.prog 68 #[.slice a n cap, .int .i64 tx, .slice ab nb cb] w fun e w' => ∃ a' m c' r p q, e = .returned (.agg #[.int .i64 (Ch.backAll tx ls bs).1, .slice a' m c', .slice r p q]) ∧ OwnU w' w.heap.size (.slice a' m c') m (Ch.backAll tx ls bs).2.1 (.slice r p q) p (Ch.backAll tx ls bs).2.2 ∧ Below w.heap.size w w' := by
  have hs := Ch.good_size hg
  have HL := hb.bflen
  have hgl : ∀ k, k < n → (ls.getD k []).length ≠ 0 := fun k hk => (Ch.good_leaf hg k (by have := h.len.out; omega)).1
  have hmf : ∀ (fn : Fn) (first cap : Array Value) (w : World), (Instr.makeFunc fn first cap).run Try.prog w = .ok (.func fn first cap) w := fun _ _ _ _ => rfl
  have b0 : Below w.heap.size w ((w.alloc (.cells #[.int .i64 tx] 2)).alloc (.cells #[.int .i64 0, .slice none 0 0, .slice none 0 0] 29)) := ((Below.refl _ _).alloc (Nat.le_refl _) _).alloc (by simp) _
  have hT0 := block_below ((Below.refl _ _).alloc (Nat.le_refl _) (.cells #[.int .i64 0, .slice none 0 0, .slice none 0 0] 29)) (heap_alloc_new w (.cells #[.int .i64 tx] 2))
  have hR0 := heap_alloc_new (w.alloc (.cells #[.int .i64 tx] 2)) (.cells #[.int .i64 0, .slice none 0 0, .slice none 0 0] 29)
  rw [show (w.alloc (.cells #[.int .i64 tx] 2)).heap.size = w.heap.size + 1 by simp] at hR0
  go_enter_defers Try.func68, Try.ntmps68
  go_wp2_with fail
  refine (cloneLeavesAll_any a n cap ls _ (h.below b0) hs hgl).mono ?_
  rintro e w1 ⟨a1, c1, rfl, o1, b1⟩
  have hR1 := block_below b1 hR0
  have hT1 := block_below b1 hT0
  have bE := b0.trans (b1.mono b0.size)
  have z1 := b1.size
  simp at z1
  obtain ⟨x0, x1, x2, f0, f1, f2⟩ := rowThree hR1
  clear hR0 hT0 b0
  go_wp2
  have hRV := heap_mid hR1 (.slice a1 n c1)
  have hTV : (w1.setCell ⟨w.heap.size + 1, 1, none⟩ (.slice a1 n c1)).heap[w.heap.size]? = some (.cells #[.int .i64 tx] 2 (0, 0)) := (Below.heap_setCell _ _ _ _ (by show w.heap.size ≠ w.heap.size + 1; omega)).trans hT1
  obtain ⟨vs, o1⟩ := o1.told
  have o1V := o1.store3 (q := w.heap.size + 1) (o := 1) (by simp) (.slice a1 n c1)
  have hBV := bE.setCell (p := ⟨w.heap.size + 1, 1, none⟩) (Nat.le_succ _) (.slice a1 n c1)
  have hVs : (w1.setCell ⟨w.heap.size + 1, 1, none⟩ (.slice a1 n c1)).heap.size = w1.heap.size := by simp
  generalize w1.setCell ⟨w.heap.size + 1, 1, none⟩ (.slice a1 n c1) = V at *
  clear x0 x1 x2 f0 f1 f2 hR1 hT1 b1 o1 bE
  refine wp_loop (fun act wr => ∃ (k : Nat) (u8 u15 u16 u17 u18 u19 : Value), k ≤ nb ∧ act = { tmps := #[.slice a n cap, .int .i64 tx, .slice ab nb cb, undef, .pointer (some ⟨w.heap.size, 0, none⟩), undef, .pointer (some ⟨w.heap.size + 1, 0, none⟩), undef, u8, .slice a n cap, .slice a1 n c1, .pointer (some ⟨w.heap.size + 1, 1, none⟩), .slice ab nb cb, .int .i64 nb, .int .i64 k, u15, u16, u17, u18, u19, undef], defers := putOff (w.heap.size + 1) w.heap.size w1.heap.size k } ∧ wr.heap.size = w1.heap.size + k ∧ (∀ i, i < k → wr.heap[w1.heap.size + i]? = some (.cells #[.int .i64 (bs.getD i Ch.Bf.zero).k, .bool (bs.getD i Ch.Bf.zero).h, .int .i64 (bs.getD i Ch.Bf.zero).v] 32 (0, 0))) ∧ Below V.heap.size V wr) (fun act _ => nb - (intOf (act.tmps.getD 14 undef)).toNat) ⟨0, undef, undef, undef, undef, undef, undef, Nat.zero_le _, rfl, by simpa using hVs, fun i hi => absurd hi (by omega), Below.refl _ _⟩ ?_
  rintro act wr ⟨k, u8, u15, u16, u17, u18, u19, hk, rfl, hsz, hX, hB⟩
  have hbW := hBV.trans (hB.mono hBV.size)
  by_cases hlt : k < nb
  · obtain ⟨b, off, rfl, q0, q1, q2⟩ := (hb.below hbW).bef hlt
    have hbl := lt_of_cell q0
    have Hr := hid (rfl : bs.getD k Ch.Bf.zero = bs.getD k Ch.Bf.zero)
    generalize hr : bs.getD k Ch.Bf.zero = r at q0 q1 q2
    replace Hr := hid hr
    clear hr
    obtain ⟨rk, rh, rv⟩ := r
    simp only at q0 q1 q2
    have HXk : Hid (wr.heap.size = w1.heap.size + k) := hsz
    have HX := hid hX
    have hoff : putOff (w.heap.size + 1) w.heap.size w1.heap.size (k + 1) = { target := .fn (.func 114) #[.pointer (some ⟨w.heap.size + 1, 0, none⟩), .pointer (some ⟨w.heap.size, 0, none⟩), .pointer (some ⟨w1.heap.size + k, 0, none⟩)], args := #[] } :: putOff (w.heap.size + 1) w.heap.size w1.heap.size k := rfl
    have HO := hid hoff
    generalize putOff (w.heap.size + 1) w.heap.size w1.heap.size k = D at *
    clear hX hsz hoff
    go_wp2
    refine ⟨⟨k + 1, .pointer (some ⟨wr.heap.size, 0, none⟩), .bool true, .pointer (some ⟨b, off + k * 3, none⟩), .agg #[.int .i64 rk, .bool rh, .int .i64 rv], .func (.func 114) #[] #[.pointer (some ⟨w.heap.size + 1, 0, none⟩), .pointer (some ⟨w.heap.size, 0, none⟩), .pointer (some ⟨wr.heap.size, 0, none⟩)], .int .i64 ((k : Int) + 1), by omega, by rw [HO.out, ← HXk.out]; simp, by have := HXk.out; simp; omega, fun i hi => ?_, hB.alloc hB.size _⟩, by simp [intOf]; omega⟩
    by_cases hik : i = k
    · subst hik
      rw [Hr.out, ← HXk.out]
      exact heap_alloc_new wr _
    · exact (Below.heap_alloc wr _ _ (by have := HXk.out; omega)).trans (HX.out i (by omega))
  · obtain rfl : k = nb := by omega
    have hRW := block_below hB hRV
    have hTW := block_below hB hTV
    obtain ⟨x0, x1, x2, f0, f1, f2⟩ := rowThree hRW
    have hbl : bs.length = k := by have := HL.out; omega
    have hW6 := ((hbW.setCell (p := ⟨w.heap.size + 1, 0, none⟩) (Nat.le_succ _) (.int .i64 0)).setCell (p := ⟨w.heap.size + 1, 1, none⟩) (Nat.le_succ _) (.slice a1 n c1)).setCell (p := ⟨w.heap.size + 1, 2, none⟩) (Nat.le_succ _) (.slice none 0 0)
    have hV6 := fun j (hj : j ≠ w.heap.size + 1) => show ((((wr.setCell ⟨w.heap.size + 1, 0, none⟩ (.int .i64 0)).setCell ⟨w.heap.size + 1, 1, none⟩ (.slice a1 n c1)).setCell ⟨w.heap.size + 1, 2, none⟩ (.slice none 0 0)).heap[j]? = wr.heap[j]?) from by
      rw [Below.heap_setCell _ _ _ _ (by exact hj), Below.heap_setCell _ _ _ _ (by exact hj), Below.heap_setCell _ _ _ _ (by exact hj)]
    have o1W := (o1V.below hB)
    have o6 := ((o1W.store3 (q := w.heap.size + 1) (o := 0) (by simp) (.int .i64 0)).store3 (q := w.heap.size + 1) (o := 1) (by simp) (.slice a1 n c1)).store3 (q := w.heap.size + 1) (o := 2) (by simp) (.slice none 0 0)
    have hsW := hsz
    have hBs := hB.size
    go_wp2
    have hend := Ch.back_end (tx := tx) (ls := ls) (bs := bs) (k := bs.length) (Nat.le_refl _)
    rw [← hbl]
    refine leaves_back w.heap.size (w.heap.size + 1) w.heap.size w1.heap.size (w.heap.size + 2) k (Nat.le_succ _) tx ls bs hg (by omega) (by omega) (by omega) (by omega) (by omega) (by omega) _ _ w ?_ ?_ bs.length (Nat.le_refl _) _ a1 n c1 none 0 0 ?_ ((hV6 _ (by omega)).trans hTW) (fun i hi => (hV6 _ (by omega)).trans (hX i (by omega))) ?_ (fun g hg => by simp [Value.ownBlock] at hg) (by simp; omega) hW6 (by simp; omega) (Nat.le_refl _)
    · intro w' z0 z1' z2 hz
      obtain ⟨y0, y1, y2, _, _, _⟩ := rowThree hz
      simp [results, Try.results68, go_sem, y0, y1, y2]
    · intro w' a' m' cap' r' p' q' U' bel'
      exact ⟨a', m', cap', r', p', q', rfl, U'.base (by omega), bel'⟩
    · rw [hend]
      exact heap_three hRW _ _ _
    · rw [hend]
      have hl0 := owns_lt o6.2.1
      have hl1 := o6.lt
      refine ⟨vs, w.heap.size + 2, w1.heap.size + k, by simpa using o6, World.ownsRow_nil _ _ _ _, Nat.le_refl _, by simp; omega, fun g hg => ?_, fun i x g hx hg => ?_, fun g hg => by simp [Value.ownBlock] at hg⟩
      · have := hl0 g hg; simp at this; omega
      · have := hl1 i x g hx hg; simp at this; omega

set_option linter.unusedSimpArgs false in
set_option maxHeartbeats 4000000 in
theorem implUndoAll_any (a : Option Addr) (n cap : Nat) (tx : Int) (ab : Option Addr) (nb cb : Nat) (ls : List (List Ch.Row)) (bs : List Ch.Bf) (w : World) (h : LvAt w a n ls) (hs : Ch.lvSize ls ≤ 1048576) (hb : CellsAt w ab (nb * 3) (bfcells bs)) (hnb : nb ≤ 1048576) :
    Calls Try.prog 17 #[.slice a n cap, .int .i64 tx, .slice ab nb cb] w fun e w' => ∃ a' m c' r p q, e = .returned (.agg #[.int .i64 (Ch.undoR ls tx bs).1, .slice a' m c', .slice r p q]) ∧ OwnU w' w.heap.size (.slice a' m c') m (Ch.undoR ls tx bs).2.1 (.slice r p q) p (Ch.undoR ls tx bs).2.2 ∧ Below w.heap.size w w' := by
  have b0 : Below w.heap.size w (w.alloc (.cells #[.int .i64 0, .slice none 0 0, .slice none 0 0] 29)) := (Below.refl _ _).alloc (Nat.le_refl _) _
  have FI := fun W hW hb' => setFault_any a n cap tx ab nb cb ls bs W hW hs hb' hnb
  obtain ⟨c, HC⟩ : ∃ c, Hid (Ch.setF ls tx bs = c) := ⟨_, rfl⟩
  rw [HC.out] at FI
  by_cases h0 : c = 0
  · subst h0
    rw [Ch.undoR_ok HC.out]
    have hg := Ch.setF_leaves HC.out
    have hn40 : nb ≤ 40 := by have := Ch.setF_few HC.out; have := hb.bflen.out; omega
    have TI := fun W hW hb' => takenBack_any a n cap tx ab nb cb ls bs W hW hg hb' hn40
    generalize Ch.backAll tx ls bs = st at *
    clear HC hg
    go_enter Try.func17, Try.ntmps17
    go_wp2_with fail
    refine (FI _ (h.below b0) (hb.below b0)).mono ?_
    rintro e w1 ⟨rfl, b1⟩
    obtain ⟨x0, x1, x2, f0, f1, f2⟩ := three_box b1
    have hz := lt_of_cell x0
    have bE := b0.trans (b1.mono b0.size)
    clear b1 FI
    go_wp2_with fail
    refine (TI _ (h.below bE) (hb.below bE)).mono ?_
    rintro e w2 ⟨a2, m2, c2, r2, p2, q2, rfl, U2, b2⟩
    replace x0 := keep_cell b2 x0
    replace x1 := keep_cell b2 x1
    replace x2 := keep_cell b2 x2
    replace f0 := ((bcell b2).2 w.heap.size 0 hz).trans f0
    replace f1 := ((bcell b2).2 w.heap.size 1 hz).trans f1
    replace f2 := ((bcell b2).2 w.heap.size 2 hz).trans f2
    have bF := bE.trans (b2.mono bE.size)
    go_wp2
    refine bodyPost_ret (v := .agg #[.int .i64 st.1, .slice a2 m2 c2, .slice r2 p2 q2]) (by simp [results, Try.results17, go_sem, x0, x1, x2]) rfl ⟨a2, m2, c2, r2, p2, q2, rfl, ?_, ((bF.setCell (p := ⟨w.heap.size, 0, none⟩) (Nat.le_refl _) _).setCell (p := ⟨w.heap.size, 1, none⟩) (Nat.le_refl _) _).setCell (p := ⟨w.heap.size, 2, none⟩) (Nat.le_refl _) _⟩
    exact (((U2.low hz _).low hz _).low hz _).base (Nat.le_of_lt hz)
  · have hc : (c != 0) = true := by simpa using h0
    rw [Ch.undoR_code HC.out hc]
    clear HC
    go_enter Try.func17, Try.ntmps17
    go_wp2_with fail
    refine (FI _ (h.below b0) (hb.below b0)).mono ?_
    rintro e w1 ⟨rfl, b1⟩
    obtain ⟨x0, x1, x2, f0, f1, f2⟩ := three_box b1
    have hz := lt_of_cell x0
    have bE := b0.trans (b1.mono b0.size)
    clear b1 FI
    go_wp2
    exact bodyPost_ret (v := .agg #[.int .i64 c, .slice none 0 0, .slice none 0 0]) (by simp [results, Try.results17, go_sem, x0, x1, x2]) rfl ⟨none, 0, 0, none, 0, 0, rfl, OwnU.none _ _, ((bE.setCell (p := ⟨w.heap.size, 0, none⟩) (Nat.le_refl _) _).setCell (p := ⟨w.heap.size, 1, none⟩) (Nat.le_refl _) _).setCell (p := ⟨w.heap.size, 2, none⟩) (Nat.le_refl _) _⟩
end Go.Proofs.Ythfanfnbjldddaa


/- UndoAll of the model. -/
namespace Go.Proofs.Ythfanfnbjldddaa
open Go.RowKit

theorem heap_seven {w : World} {R : Nat} {t : TypeId} {u0 u1 u2 u3 u4 u5 u6 : Value} (h : w.heap[R]? = some (.cells #[u0, u1, u2, u3, u4, u5, u6] t (0, 0))) (v0 v1 v2 v3 v4 v5 v6 : Value) : (((((((w.setCell ⟨R, 0, none⟩ v0).setCell ⟨R, 1, none⟩ v1).setCell ⟨R, 2, none⟩ v2).setCell ⟨R, 3, none⟩ v3).setCell ⟨R, 4, none⟩ v4).setCell ⟨R, 5, none⟩ v5).setCell ⟨R, 6, none⟩ v6).heap[R]? = some (.cells #[v0, v1, v2, v3, v4, v5, v6] t (0, 0)) := by
  have h0 := Joins.block_setCell (i := 0) h v0
  have h1 := Joins.block_setCell (i := 1) h0 v1
  have h2 := Joins.block_setCell (i := 2) h1 v2
  have h3 := Joins.block_setCell (i := 3) h2 v3
  have h4 := Joins.block_setCell (i := 4) h3 v4
  have h5 := Joins.block_setCell (i := 5) h4 v5
  have h6 := Joins.block_setCell (i := 6) h5 v6
  simpa using h6
/-- Leaves of one's own from lo to hi, a block K outside. -/
def LvK (w : World) (B K : Nat) (lv : Value) (m : Nat) (ls : List (List Ch.Row)) : Prop :=
  ∃ vs lo hi, OwnV w B lv m vs ls ∧ B ≤ lo ∧ hi ≤ w.heap.size ∧ (∀ g, lv.ownBlock = some g → lo ≤ g ∧ g < hi) ∧ (∀ (i : Nat) (x : Value) (g : Nat), vs[i]? = some x → x.ownBlock = some g → lo ≤ g ∧ g < hi) ∧ (K < lo ∨ hi ≤ K)

/-- Leaves and records in a box O: apart from one another and from it. -/
def OwnO (w : World) (B O : Nat) (lv : Value) (m : Nat) (ls : List (List Ch.Row)) (rv : Value) (p : Nat) (rs : List Ch.Rec) : Prop :=
  ∃ vs lo hi, OwnV w B lv m vs ls ∧ w.ownsRow B 41 7 rv p (rc7 rs) ∧ B ≤ lo ∧ hi ≤ w.heap.size ∧ (∀ g, lv.ownBlock = some g → lo ≤ g ∧ g < hi) ∧ (∀ (i : Nat) (x : Value) (g : Nat), vs[i]? = some x → x.ownBlock = some g → lo ≤ g ∧ g < hi) ∧ (∀ g, rv.ownBlock = some g → (g < lo ∨ hi ≤ g) ∧ g ≠ O) ∧ (O < lo ∨ hi ≤ O)
theorem OwnO.own {w : World} {B O m p : Nat} {lv rv : Value} {ls : List (List Ch.Row)} {rs : List Ch.Rec} (h : OwnO w B O lv m ls rv p rs) : OwnU w B lv m ls rv p rs := by
  obtain ⟨vs, lo, hi, h1, h2, h3, h4, h5, h6, h7, _⟩ := h
  exact ⟨vs, lo, hi, h1, h2, h3, h4, h5, h6, fun g hg => (h7 g hg).1⟩
theorem Ch.bef_fine {bs : List Ch.Bf} (h : Ch.befOne bs = 0) {k : Nat} (hk : k < bs.length) : (bs.getD k Ch.Bf.zero).fault = 0 := Ch.bef_ok h _ (by simp [List.getD, hk])
theorem Ch.fine_parts {k v : Int} {h : Bool} (hf : (⟨k, h, v⟩ : Ch.Bf).fault = 0) : Ch.inB k 0 99 = true := by
  unfold Ch.Bf.fault at hf
  by_cases h1 : (!Ch.inB k 0 99 || !Ch.inB v 0 9999) = true
  · rw [if_pos h1] at hf; cases hf
  · simp only [Bool.or_eq_true, Bool.not_eq_true', not_or, Bool.not_eq_false] at h1
    exact h1.1
/-- A step back where nothing is at fault. -/
theorem Ch.back_set {tx k v : Int} {h : Bool} {ls : List (List Ch.Row)} {rs : List Ch.Rec} (hg : Ch.leavesFault ls = 0) (ht : Ch.inB tx 1 999 = true) (hf : (⟨k, h, v⟩ : Ch.Bf).fault = 0) :
    ((Ch.setLs ls k h v).1 = 0 → Ch.backOne tx (0, ls, rs) ⟨k, h, v⟩ = (0, (Ch.setLs ls k h v).2, rs ++ [⟨3, tx, k, (Ch.bf k (Ch.has ls k)).h, (Ch.bf k (Ch.has ls k)).v, h, v⟩])) ∧ (∀ c, (Ch.setLs ls k h v).1 = c → (c != 0) = true → Ch.backOne tx (0, ls, rs) ⟨k, h, v⟩ = (c, [], [])) := by
  have hF : Ch.setF ls tx [⟨k, h, v⟩] = 0 := by rw [Ch.setF_bf hg ht]; exact hf
  refine ⟨fun hs => ?_, fun c hs hc => ?_⟩
  · have e := Ch.setR_ok hF hs
    rw [Ch.back_ok (b := ⟨k, h, v⟩) (by rw [e]), e]
    rfl
  · exact Ch.back_many (b := ⟨k, h, v⟩) (by rw [Ch.setR_many hF hs hc]) hc
theorem Ch.back_stands {tx c : Int} {ls l : List (List Ch.Row)} {rs : List Ch.Rec} {bs : List Ch.Bf} {k : Nat} (hc : (c != 0) = true) (h : Ch.backAll tx ls (bs.drop k) = (c, l, rs)) : Ch.backAll tx ls bs = (c, l, rs) := by
  induction k with
  | zero => rwa [List.drop_zero] at h
  | succ k ih =>
    by_cases hk : k < bs.length
    · exact ih (by rw [Ch.back_next hk, h, Ch.back_code hc])
    · refine ih ?_
      rw [List.drop_of_length_le (by omega)] at h ⊢
      exact h

set_option linter.unusedSimpArgs false in
set_option maxRecDepth 20000 in
set_option maxHeartbeats 8000000 in
theorem l8Undo_any (a : Option Addr) (n cap : Nat) (tx : Int) (ab : Option Addr) (nb cb : Nat) (ls : List (List Ch.Row)) (bs : List Ch.Bf) (w : World) (h : LvAt w a n ls) (hg : Ch.leavesFault ls = 0) (ht : Ch.inB tx 1 999 = true) (hf : Ch.befOne bs = 0) (hb : CellsAt w ab (nb * 3) (bfcells bs)) (hnb : nb ≤ 40) :
    Calls Try.prog 74 #[.slice a n cap, .int .i64 tx, .slice ab nb cb] w fun e w' => ∃ a' m c' r p q, e = .returned (.agg #[.int .i64 (Ch.backAll tx ls bs).1, .slice a' m c', .slice r p q]) ∧ OwnU w' w.heap.size (.slice a' m c') m (Ch.backAll tx ls bs).2.1 (.slice r p q) p (Ch.backAll tx ls bs).2.2 ∧ Below w.heap.size w w' := by
  have hs := Ch.good_size hg
  have HL := hb.bflen
  have hgl : ∀ k, k < n → (ls.getD k []).length ≠ 0 := fun k hk => (Ch.good_leaf hg k (by have := h.len.out; omega)).1
  have b0 : Below w.heap.size w (w.alloc (.cells #[.int .i64 0, .slice none 0 0, .slice none 0 0] 29)) := (Below.refl _ _).alloc (Nat.le_refl _) _
  go_enter Try.func74, Try.ntmps74
  go_wp2_with fail
  refine (specCopy_any a n cap ls _ (h.below b0) hs hgl).mono ?_
  rintro e w1 ⟨a1, c1, rfl, o1, b1⟩
  have hR1 := block_below b1 (heap_alloc_new w _)
  have bE := below_box b1
  have z1 := b1.size
  simp at z1
  obtain ⟨vs, o1⟩ := o1.told
  have o1' : OwnV w1 (w.heap.size + 1) (.slice a1 n c1) n vs ls := by simpa using o1
  clear o1 b1 b0
  have hR2 := (Below.heap_alloc w1 (.cells #[.int .i64 0, .slice a1 n c1, .slice none 0 0] 29) _ (by omega)).trans hR1
  have kO : Below w1.heap.size w1 (w1.alloc (.cells #[.int .i64 0, .slice a1 n c1, .slice none 0 0] 29)) := (Below.refl _ _).alloc (Nat.le_refl _) _
  go_wp2
  go_loopw [8] (fun i wr => ∃ (k : Nat) (al : Option Addr) (ml cl : Nat) (r : Option Addr) (p q : Nat), k ≤ nb ∧ i = .int .i64 ((k : Int) - 1) ∧ Hid ((Ch.backAll tx ls (bs.drop k)).1 = 0) ∧ wr.heap[w.heap.size]? = some (.cells #[.int .i64 0, .slice none 0 0, .slice none 0 0] 29 (0, 0)) ∧ wr.heap[w1.heap.size]? = some (.cells #[.int .i64 0, .slice al ml cl, .slice r p q] 29 (0, 0)) ∧ OwnO wr (w.heap.size + 1) w1.heap.size (.slice al ml cl) ml (Ch.backAll tx ls (bs.drop k)).2.1 (.slice r p q) p (Ch.backAll tx ls (bs.drop k)).2.2 ∧ w1.heap.size + 1 ≤ wr.heap.size ∧ Below w.heap.size w wr) (fun i _ => (intOf i + 1).toNat)
  case atStart =>
    have hend := Ch.back_end (tx := tx) (ls := ls) (bs := bs) (k := nb) (by have := HL.out; omega)
    refine ⟨nb, a1, n, c1, none, 0, 0, Nat.le_refl _, rfl, by rw [hend]; rfl, hR2, heap_alloc_new w1 _, ?_, by simp, bE.alloc bE.size _⟩
    rw [hend]
    exact ⟨vs, w.heap.size + 1, w1.heap.size, o1'.below kO, World.ownsRow_nil _ _ _ _, Nat.le_refl _, by simp, owns_lt o1'.2.1, o1'.lt, fun g hg => by simp [Value.ownBlock] at hg, .inr (Nat.le_refl _)⟩
  case round =>
    clear hR2 kO o1' hR1
    obtain ⟨k, al, ml, cl, r, p, q, hk, rfl, H0, hR, hO, UO, hsz, hB⟩ := hrel
    have hzw : w.heap.size < wr.heap.size := (Array.getElem?_eq_some_iff.1 hR).1
    have hzo : w1.heap.size < wr.heap.size := (Array.getElem?_eq_some_iff.1 hO).1
    obtain ⟨x0, x1, x2, f0, f1, f2⟩ := rowThree hR
    obtain ⟨y0, y1, y2, g0, g1, g2⟩ := rowThree hO
    cases k with
    | zero =>
      rw [List.drop_zero] at H0 UO
      have hm1 : (((0 : Nat) : Int) - 1) = -1 := by omega
      rw [hm1]
      have hdec : decide ((0 : Int) ≤ -1) = false := by decide
      have UU := UO.own
      clear UO
      go_wp2
      refine bodyPost_ret (v := .agg #[.int .i64 0, .slice al ml cl, .slice r p q]) (by simp [results, Try.results74, go_sem, x0, x1, x2]) rfl ⟨al, ml, cl, r, p, q, by rw [H0.out], ?_, ((hB.setCell (p := ⟨w.heap.size, 0, none⟩) (Nat.le_refl _) _).setCell (p := ⟨w.heap.size, 1, none⟩) (Nat.le_refl _) _).setCell (p := ⟨w.heap.size, 2, none⟩) (Nat.le_refl _) _⟩
      exact (((UU.low (Nat.lt_succ_self _) _).low (Nat.lt_succ_self _) _).low (Nat.lt_succ_self _) _).base (Nat.le_succ _)
    | succ i =>
      have hil : i < bs.length := by have := HL.out; omega
      have hin : i < nb := by omega
      have hm1 : (((i + 1 : Nat) : Int) - 1) = (i : Int) := by omega
      rw [hm1]
      have keep := Ch.back_keeps (tx := tx) hg (bs.drop (i + 1))
      have hnext := hid (Ch.back_next (tx := tx) (ls := ls) hil)
      have hfi := Ch.bef_fine hf hil
      have hstand := hid (fun c hc h => Ch.back_stands (tx := tx) (c := c) (ls := ls) (l := []) (rs := []) (bs := bs) (k := i) hc h)
      obtain ⟨b, off, rfl, q0, q1, q2⟩ := (hb.below hB).bef (show i < nb by omega)
      have hbl := lt_of_cell q0
      generalize bs.getD i Ch.Bf.zero = bb at *
      obtain ⟨bk, bh, bv⟩ := bb
      simp only at q0 q1 q2
      generalize hst : Ch.backAll tx ls (bs.drop (i + 1)) = st at *
      obtain ⟨sc, l, rs⟩ := st
      have hsc : sc = 0 := H0.out
      subst hsc
      have hlg : Ch.leavesFault l = 0 := keep.2.2 rfl
      have hpl : p ≤ 1048576 := by have h1 := UO.own.len.2; have h2 := keep.2.1; have h3 := HL.out; simp at h1 h2; omega
      have hset := hid (Ch.back_set (rs := rs) hlg ht hfi)
      have LV := UO.own.lv (Ch.good_size hlg)
      have SI := fun W hW => l8Set_any al ml cl tx bk bh bv l W hW hlg (Ch.fine_parts hfi)
      generalize Ch.bf bk (Ch.has l bk) = bb at *
      obtain ⟨_, rh, ro⟩ := bb
      generalize Ch.setLs l bk bh bv = Y at *
      obtain ⟨yc, nl⟩ := Y
      simp only at hset SI
      clear hst keep hfi H0
      generalize hOO : w1.heap.size = O at *
      go_upto_region 5 with fail
      go_cut [9, 10, 11] (fun s9 s10 s11 wx => ∃ K a2 m2 c2, s9 = .slice a2 m2 c2 ∧ s10 = .pointer (some ⟨K, 0, none⟩) ∧ s11 = .int .i64 yc ∧ wx.heap[K]? = some (.cells #[.int .i64 2, .int .i64 tx, .int .i64 bk, .bool rh, .int .i64 ro, .bool bh, .int .i64 bv] 41 (0, 0)) ∧ LvK wx wr.heap.size K (.slice a2 m2 c2) m2 nl ∧ wr.heap.size ≤ K ∧ Below wr.heap.size wr wx)
      case first =>
        have HS : Hid (∀ W', Below wr.heap.size wr W' → W'.cell? ⟨O, 1, none⟩ = some (.slice al ml cl) ∧ W'.cell? ⟨b, off + i * 3, none⟩ = some (.int .i64 bk) ∧ W'.cell? ⟨b, off + i * 3 + 1, none⟩ = some (.bool bh) ∧ W'.cell? ⟨b, off + i * 3 + 2, none⟩ = some (.int .i64 bv) ∧ Below wr.heap.size wr W') := fun W' hW => ⟨keep_cell hW y1, keep_cell hW q0, keep_cell hW q1, keep_cell hW q2, hW⟩
        refine wp_region_noPanic ?_
        refine wp_region_held_drew (S := fun W' => W'.cell? ⟨O, 1, none⟩ = some (.slice al ml cl) ∧ W'.cell? ⟨b, off + i * 3, none⟩ = some (.int .i64 bk) ∧ W'.cell? ⟨b, off + i * 3 + 1, none⟩ = some (.bool bh) ∧ W'.cell? ⟨b, off + i * 3 + 2, none⟩ = some (.int .i64 bv) ∧ Below wr.heap.size wr W') (by kernel_rfl) (HS.out _ (Below.refl _ _).drew) (fun hH => ?_)
        have hwd : wr.heap.size ≤ wr.drew.heap.size := (Below.refl wr.heap.size wr).drew.size
        generalize wr.drew = wd at *
        refine hTake (i := 0) (v := ?_) rfl (by kernel_rfl) (by kernel_rfl) (by kernel_rfl) (by rfl) ?_ hH ?_
        rotate_left
        · intro W hW; (try dsimp only at hW); go_simp <;> with_reducible rfl
        simp only [Act.put, List.setIfInBounds_toArray, List.set_cons_zero, List.set_cons_succ]
        refine hTake (i := 1) (v := ?_) rfl (by kernel_rfl) (by kernel_rfl) (by kernel_rfl) (by rfl) ?_ hH ?_
        rotate_left
        · intro W hW; (try dsimp only at hW); go_simp <;> with_reducible rfl
        simp only [Act.put, List.setIfInBounds_toArray, List.set_cons_zero, List.set_cons_succ]
        refine hTake (i := 2) (v := ?_) rfl (by kernel_rfl) (by kernel_rfl) (by kernel_rfl) (by rfl) ?_ hH ?_
        rotate_left
        · intro W hW; (try dsimp only at hW); go_simp <;> with_reducible rfl
        simp only [Act.put, List.setIfInBounds_toArray, List.set_cons_zero, List.set_cons_succ]
        refine hTake (i := 3) (v := ?_) rfl (by kernel_rfl) (by kernel_rfl) (by kernel_rfl) (by rfl) ?_ hH ?_
        rotate_left
        · intro W hW; (try dsimp only at hW); go_simp <;> with_reducible rfl
        simp only [Act.put, List.setIfInBounds_toArray, List.set_cons_zero, List.set_cons_succ]
        refine hTake (i := 4) (v := ?_) rfl (by kernel_rfl) (by kernel_rfl) (by kernel_rfl) (by rfl) ?_ hH ?_
        rotate_left
        · intro W hW; (try dsimp only at hW); go_simp <;> with_reducible rfl
        simp only [Act.put, List.setIfInBounds_toArray, List.set_cons_zero, List.set_cons_succ]
        refine hTake (i := 5) (v := ?_) rfl (by kernel_rfl) (by kernel_rfl) (by kernel_rfl) (by rfl) ?_ hH ?_
        rotate_left
        · intro W hW; (try dsimp only at hW); go_simp <;> with_reducible rfl
        simp only [Act.put, List.setIfInBounds_toArray, List.set_cons_zero, List.set_cons_succ]
        refine hTake (i := 6) (v := ?_) rfl (by kernel_rfl) (by kernel_rfl) (by kernel_rfl) (by rfl) ?_ hH ?_
        rotate_left
        · intro W hW; (try dsimp only at hW); go_simp <;> with_reducible rfl
        simp only [Act.put, List.setIfInBounds_toArray, List.set_cons_zero, List.set_cons_succ]
        refine hTake (i := 7) (v := ?_) rfl (by kernel_rfl) (by kernel_rfl) (by kernel_rfl) (by rfl) ?_ hH ?_
        rotate_left
        · intro W hW; (try dsimp only at hW); go_simp <;> with_reducible rfl
        simp only [Act.put, List.setIfInBounds_toArray, List.set_cons_zero, List.set_cons_succ]
        refine hTake (i := 8) (v := ?_) rfl (by kernel_rfl) (by kernel_rfl) (by kernel_rfl) (by rfl) ?_ hH ?_
        rotate_left
        · intro W hW; (try dsimp only at hW); go_simp <;> with_reducible rfl
        simp only [Act.put, List.setIfInBounds_toArray, List.set_cons_zero, List.set_cons_succ]
        refine hTake (i := 9) (v := ?_) rfl (by kernel_rfl) (by kernel_rfl) (by kernel_rfl) (by rfl) ?_ hH ?_
        rotate_left
        · intro W hW; (try dsimp only at hW); go_simp <;> with_reducible rfl
        simp only [Act.put, List.setIfInBounds_toArray, List.set_cons_zero, List.set_cons_succ]
        refine hTake (i := 10) (v := ?_) rfl (by kernel_rfl) (by kernel_rfl) (by kernel_rfl) (by rfl) ?_ hH ?_
        rotate_left
        · intro W hW; (try dsimp only at hW); go_simp <;> with_reducible rfl
        simp only [Act.put, List.setIfInBounds_toArray, List.set_cons_zero, List.set_cons_succ]
        refine hTake (i := 11) (v := ?_) rfl (by kernel_rfl) (by kernel_rfl) (by kernel_rfl) (by rfl) ?_ hH ?_
        rotate_left
        · intro W hW; (try dsimp only at hW); go_simp <;> with_reducible rfl
        simp only [Act.put, List.setIfInBounds_toArray, List.set_cons_zero, List.set_cons_succ]
        refine hTake (i := 12) (v := ?_) rfl (by kernel_rfl) (by kernel_rfl) (by kernel_rfl) (by rfl) ?_ hH ?_
        rotate_left
        · intro W hW; (try dsimp only at hW); go_simp <;> with_reducible rfl
        simp only [Act.put, List.setIfInBounds_toArray, List.set_cons_zero, List.set_cons_succ]
        refine hTake (i := 13) (v := ?_) rfl (by kernel_rfl) (by kernel_rfl) (by kernel_rfl) (by rfl) ?_ hH ?_
        rotate_left
        · intro W hW; (try dsimp only at hW); go_simp <;> with_reducible rfl
        simp only [Act.put, List.setIfInBounds_toArray, List.set_cons_zero, List.set_cons_succ]
        refine hTake (i := 14) (v := ?_) rfl (by kernel_rfl) (by kernel_rfl) (by kernel_rfl) (by rfl) ?_ hH ?_
        rotate_left
        · intro W hW; (try dsimp only at hW); go_simp <;> with_reducible rfl
        simp only [Act.put, List.setIfInBounds_toArray, List.set_cons_zero, List.set_cons_succ]
        refine hTake (i := 15) (v := ?_) rfl (by kernel_rfl) (by kernel_rfl) (by kernel_rfl) (by rfl) ?_ hH ?_
        rotate_left
        · intro W hW; (try dsimp only at hW); go_simp <;> with_reducible rfl
        simp only [Act.put, List.setIfInBounds_toArray, List.set_cons_zero, List.set_cons_succ]
        refine hTake (i := 16) (v := ?_) rfl (by kernel_rfl) (by kernel_rfl) (by kernel_rfl) (by rfl) ?_ hH ?_
        rotate_left
        · intro W hW; (try dsimp only at hW); go_simp <;> with_reducible rfl
        simp only [Act.put, List.setIfInBounds_toArray, List.set_cons_zero, List.set_cons_succ]
        refine hTake (i := 17) (v := ?_) rfl (by kernel_rfl) (by kernel_rfl) (by kernel_rfl) (by rfl) ?_ hH ?_
        rotate_left
        · intro W hW; (try dsimp only at hW); go_simp <;> with_reducible rfl
        simp only [Act.put, List.setIfInBounds_toArray, List.set_cons_zero, List.set_cons_succ]
        refine wpAnyH_ready (rs := [18, 23]) (by kernel_rfl) (by simp) ?_
        refine AllReadyH.cons rfl (fun K hK => ?_) (AllReadyH.cons rfl (fun K hK => ?_) AllReadyH.nil)
        focus
          go_simp
          refine (SI _ (LV.below hH.2.2.2.2)).mono ?_
          rintro e v1 ⟨a2, m2, c2, rfl, o2, bv1⟩
          have Bv1 := hH.2.2.2.2.trans (bv1.mono hH.2.2.2.2.size)
          go_wp2_with fail
          refine hK.out _ _ ?_ (fun hH => ?_)
          · exact HS.out _ Bv1
          clear hK K
          refine hTake (i := 19) (v := ?_) rfl (by kernel_rfl) (by kernel_rfl) (by kernel_rfl) (by rfl) ?_ hH ?_
          rotate_left
          · intro W hW; (try dsimp only at hW); go_simp <;> with_reducible rfl
          simp only [Act.put, List.setIfInBounds_toArray, List.set_cons_zero, List.set_cons_succ]
          refine hTake (i := 20) (v := ?_) rfl (by kernel_rfl) (by kernel_rfl) (by kernel_rfl) (by rfl) ?_ hH ?_
          rotate_left
          · intro W hW; (try dsimp only at hW); go_simp <;> with_reducible rfl
          simp only [Act.put, List.setIfInBounds_toArray, List.set_cons_zero, List.set_cons_succ]
          refine hTake (i := 21) (v := ?_) rfl (by kernel_rfl) (by kernel_rfl) (by kernel_rfl) (by rfl) ?_ hH ?_
          rotate_left
          · intro W hW; (try dsimp only at hW); go_simp <;> with_reducible rfl
          simp only [Act.put, List.setIfInBounds_toArray, List.set_cons_zero, List.set_cons_succ]
          refine hTake (i := 22) (v := ?_) rfl (by kernel_rfl) (by kernel_rfl) (by kernel_rfl) (by rfl) ?_ hH ?_
          rotate_left
          · intro W hW; (try dsimp only at hW); go_simp <;> with_reducible rfl
          simp only [Act.put, List.setIfInBounds_toArray, List.set_cons_zero, List.set_cons_succ]
          refine wpAnyH_ready (rs := [23]) (by kernel_rfl) (by simp) ?_
          refine AllReadyH.cons rfl (fun K hK => ?_) AllReadyH.nil
          go_simp
          refine hK.out _ _ ?_ (fun hH => ?_)
          · exact HS.out _ (Bv1.alloc Bv1.size _)
          clear hK K
          refine hTake (i := 24) (v := ?_) rfl (by kernel_rfl) (by kernel_rfl) (by kernel_rfl) (by rfl) ?_ hH ?_
          rotate_left
          · intro W hW; (try dsimp only at hW); go_simp <;> with_reducible rfl
          simp only [Act.put, List.setIfInBounds_toArray, List.set_cons_zero, List.set_cons_succ]
          refine wpAnyH_ready (rs := [25]) (by kernel_rfl) (by simp) ?_
          refine AllReadyH.cons rfl (fun K hK => ?_) AllReadyH.nil
          go_simp
          refine hK.out _ _ ?_ (fun hH => ?_)
          · exact HS.out _ (Bv1.alloc Bv1.size _)
          clear hK K
          refine hTake (i := 26) (v := ?_) rfl (by kernel_rfl) (by kernel_rfl) (by kernel_rfl) (by rfl) ?_ hH ?_
          rotate_left
          · intro W hW; (try dsimp only at hW); go_simp <;> with_reducible rfl
          simp only [Act.put, List.setIfInBounds_toArray, List.set_cons_zero, List.set_cons_succ]
          refine wpAnyH_done (by kernel_rfl) ?_ _
          refine NoPanic.normal ?_
          go_wp2_with fail
          go_meet
          refine ⟨v1.heap.size, a2, m2, c2, rfl, rfl, rfl, heap_alloc_new v1 _, ?_, Bv1.size, Bv1.alloc Bv1.size _⟩
          obtain ⟨vs, o2⟩ := o2.told
          exact ⟨vs, wd.heap.size, v1.heap.size, (o2.below ((Below.refl _ _).alloc (Nat.le_refl _) _)).base hwd, hwd, by simp, owns_lt o2.2.1, o2.lt, .inr (Nat.le_refl _)⟩
        focus
          go_simp
          refine hK.out _ _ ?_ (fun hH => ?_)
          · exact HS.out _ (hH.2.2.2.2.alloc hH.2.2.2.2.size _)
          clear hK K
          have BA := hH.2.2.2.2
          refine wpAnyH_ready (rs := [18]) (by kernel_rfl) (by simp) ?_
          refine AllReadyH.cons rfl (fun K hK => ?_) AllReadyH.nil
          go_simp
          refine (SI _ (LV.below BA)).mono ?_
          rintro e v1 ⟨a2, m2, c2, rfl, o2, bv1⟩
          have hK1 := block_below bv1 (heap_alloc_new wd _)
          have Bv1 := BA.trans (bv1.mono BA.size)
          have zv := bv1.size
          simp at zv
          go_wp2_with fail
          refine hK.out _ _ ?_ (fun hH => ?_)
          · exact HS.out _ Bv1
          clear hK K
          obtain ⟨⟨k0, k1, k2, k3, k4, k5, k6⟩, fk⟩ := rowSeven hK1
          have f0 := fk 0
          have f1 := fk 1
          have f2 := fk 2
          have f3 := fk 3
          have f4 := fk 4
          have f5 := fk 5
          have f6 := fk 6
          have hkz := lt_of_cell k0
          clear fk
          refine hTake (i := 19) (v := ?_) rfl (by kernel_rfl) (by kernel_rfl) (by kernel_rfl) (by rfl) ?_ hH ?_
          rotate_left
          · intro W hW; (try dsimp only at hW); go_simp <;> with_reducible rfl
          simp only [Act.put, List.setIfInBounds_toArray, List.set_cons_zero, List.set_cons_succ]
          refine hTake (i := 20) (v := ?_) rfl (by kernel_rfl) (by kernel_rfl) (by kernel_rfl) (by rfl) ?_ hH ?_
          rotate_left
          · intro W hW; (try dsimp only at hW); go_simp <;> with_reducible rfl
          simp only [Act.put, List.setIfInBounds_toArray, List.set_cons_zero, List.set_cons_succ]
          refine hTake (i := 21) (v := ?_) rfl (by kernel_rfl) (by kernel_rfl) (by kernel_rfl) (by rfl) ?_ hH ?_
          rotate_left
          · intro W hW; (try dsimp only at hW); go_simp <;> with_reducible rfl
          simp only [Act.put, List.setIfInBounds_toArray, List.set_cons_zero, List.set_cons_succ]
          refine hTake (i := 22) (v := ?_) rfl (by kernel_rfl) (by kernel_rfl) (by kernel_rfl) (by rfl) ?_ hH ?_
          rotate_left
          · intro W hW; (try dsimp only at hW); go_simp <;> with_reducible rfl
          simp only [Act.put, List.setIfInBounds_toArray, List.set_cons_zero, List.set_cons_succ]
          refine hTake (i := 24) (v := ?_) rfl (by kernel_rfl) (by kernel_rfl) (by kernel_rfl) (by rfl) ?_ hH ?_
          rotate_left
          · intro W hW; (try dsimp only at hW); go_simp <;> with_reducible rfl
          simp only [Act.put, List.setIfInBounds_toArray, List.set_cons_zero, List.set_cons_succ]
          refine wpAnyH_ready (rs := [25]) (by kernel_rfl) (by simp) ?_
          refine AllReadyH.cons rfl (fun K hK => ?_) AllReadyH.nil
          go_simp
          refine hK.out _ _ ?_ (fun hH => ?_)
          · exact HS.out _ (below_store7 Bv1 hwd _ _ _ _ _ _ _)
          clear hK K
          refine hTake (i := 26) (v := ?_) rfl (by kernel_rfl) (by kernel_rfl) (by kernel_rfl) (by rfl) ?_ hH ?_
          rotate_left
          · intro W hW; (try dsimp only at hW); go_simp <;> with_reducible rfl
          simp only [Act.put, List.setIfInBounds_toArray, List.set_cons_zero, List.set_cons_succ]
          refine wpAnyH_done (by kernel_rfl) ?_ _
          refine NoPanic.normal ?_
          go_wp2_with fail
          go_meet
          refine ⟨wd.heap.size, a2, m2, c2, rfl, rfl, rfl, heap_seven hK1 _ _ _ _ _ _ _, ?_, hwd, below_store7 Bv1 hwd _ _ _ _ _ _ _⟩
          obtain ⟨vs, o2⟩ := o2.told
          have o3 : OwnV v1 (wd.heap.size + 1) (.slice a2 m2 c2) m2 vs nl := by simpa using o2
          exact ⟨vs, wd.heap.size + 1, v1.heap.size, (o3.store7 (Nat.lt_succ_self _) _ _ _ _ _ _ _).base (by omega), by omega, by simp, owns_lt o3.2.1, o3.lt, .inl (Nat.lt_succ_self _)⟩
      case rest =>
        obtain ⟨w2, hwn⟩ : ∃ x : World, x = wc := ⟨_, rfl⟩
        subst hwn
        obtain ⟨K, a2, m2, c2, rfl, rfl, rfl, hK, LK, hwK, bC⟩ := hcut
        have hR2 := block_below bC hR
        have hO2 := block_below bC hO
        obtain ⟨x0, x1, x2, f0, f1, f2⟩ := rowThree hR2
        obtain ⟨y0, y1, y2, g0, g1, g2⟩ := rowThree hO2
        obtain ⟨⟨k0, k1, k2, k3, k4, k5, k6⟩, fk⟩ := rowSeven hK
        have fk0 := fk 0
        have hkz := lt_of_cell k0
        have bW := hB.trans (bC.mono hB.size)
        clear fk
        by_cases hy : yc = 0
        rotate_left
        · have hyc : (yc != 0) = true := by simpa using hy
          have HX := hid (hstand.out yc hyc (hnext.out.trans (hset.out.2 yc rfl hyc)))
          clear hset hstand hnext
          go_wp2
          exact bodyPost_ret (v := .agg #[.int .i64 yc, .slice none 0 0, .slice none 0 0]) (by simp [results, Try.results74, go_sem, x0, x1, x2]) rfl ⟨none, 0, 0, none, 0, 0, by rw [HX.out], by rw [HX.out]; exact OwnU.none _ _, ((bW.setCell (p := ⟨w.heap.size, 0, none⟩) (Nat.le_refl _) _).setCell (p := ⟨w.heap.size, 1, none⟩) (Nat.le_refl _) _).setCell (p := ⟨w.heap.size, 2, none⟩) (Nat.le_refl _) _⟩
        subst hy
        have HX := hid (hnext.out.trans (hset.out.1 rfl))
        obtain ⟨vs1, lo1, hi1, u1, u2, u3, u4, u5, u6, u7, u8⟩ := UO
        have K2 := owns_lt u2
        have hOR : (Value.slice r p q).ownBlock ≠ some O := fun e => (u7 O e).2 rfl
        obtain ⟨vs2, lo2, hi2, t1, t2, t3, t4, t5, t6⟩ := LK
        clear hset hstand hnext u1 u3 u4 u5 u6 u7 u8
        have hKO : K ≠ O := by omega
        have hKR : K ≠ w.heap.size := by omega
        have rK : ∀ g, (Value.slice r p q).ownBlock = some g → g ≠ K := fun g hg => by have := (K2 g hg).2; omega
        have rO : ∀ g, (Value.slice r p q).ownBlock = some g → g ≠ O := fun g hg e => hOR (by rw [← e]; exact hg)
        have recV := owns_set (o := 1) (owns_set (o := 0) (owns_below u2 bC) rK (.int .i64 3)) rO (.slice a2 m2 c2)
        have lvV := (t1.store (p := K) (o := 0) (u := .int .i64 3) (fun g hg => by have := t4 g hg; omega) (fun i x g hx hg => by have := t5 i x g hx hg; omega)).store3 (q := O) (o := 1) (by omega) (.slice a2 m2 c2)
        have hKV0 := Joins.block_setCell (i := 0) hK (.int .i64 3)
        have hKV : ((w2.setCell ⟨K, 0, none⟩ (.int .i64 3)).setCell ⟨O, 1, none⟩ (.slice a2 m2 c2)).heap[K]? = some (.cells #[.int .i64 3, .int .i64 tx, .int .i64 bk, .bool rh, .int .i64 ro, .bool bh, .int .i64 bv] 41 (0, 0)) := (Below.heap_setCell _ _ _ _ (by exact hKO)).trans (by simpa using hKV0)
        have hOV := heap_mid ((Below.heap_setCell w2 ⟨K, 0, none⟩ (.int .i64 3) O (by exact fun e => hKO e.symm)).trans hO2) (.slice a2 m2 c2)
        have hRV : ((w2.setCell ⟨K, 0, none⟩ (.int .i64 3)).setCell ⟨O, 1, none⟩ (.slice a2 m2 c2)).heap[w.heap.size]? = some (.cells #[.int .i64 0, .slice none 0 0, .slice none 0 0] 29 (0, 0)) := (Below.heap_setCell _ _ _ _ (by show w.heap.size ≠ O; omega)).trans ((Below.heap_setCell _ _ _ _ (by show w.heap.size ≠ K; omega)).trans hR2)
        have bV := (bW.setCell (p := ⟨K, 0, none⟩) (by show w.heap.size ≤ K; omega) (.int .i64 3)).setCell (p := ⟨O, 1, none⟩) (by show w.heap.size ≤ O; omega) (.slice a2 m2 c2)
        have zV : ((w2.setCell ⟨K, 0, none⟩ (.int .i64 3)).setCell ⟨O, 1, none⟩ (.slice a2 m2 c2)).heap.size = w2.heap.size := by simp
        have zC := bC.size
        go_upto_region 10 with fail
        generalize (w2.setCell ⟨K, 0, none⟩ (.int .i64 3)).setCell ⟨O, 1, none⟩ (.slice a2 m2 c2) = V at *
        clear k0 k1 k2 k3 k4 k5 k6 fk0 hkz x0 x1 x2 f0 f1 f2 y0 y1 y2 g0 g1 g2 hKV0 t1 u2 hR2 hO2
        obtain ⟨⟨k0, k1, k2, k3, k4, k5, k6⟩, _⟩ := rowSeven hKV
        obtain ⟨y0, y1, y2, g0, g1, g2⟩ := rowThree hOV
        have hkz := lt_of_cell k0
        have hyz := lt_of_cell y0
        have kN : Below V.heap.size V (V.alloc (.cells #[.int .i64 3, .int .i64 tx, .int .i64 bk, .bool rh, .int .i64 ro, .bool bh, .int .i64 bv] 41)) := (Below.refl _ _).alloc (Nat.le_refl _) _
        have oN := owns_below recV kN
        have hC := new_rec (w := V) (r := ⟨3, tx, bk, rh, ro, bh, bv⟩) (t := 41) (H := w2.heap.size) zV.symm
        have hb3 : w.heap.size + 1 ≤ (V.alloc (.cells #[.int .i64 3, .int .i64 tx, .int .i64 bk, .bool rh, .int .i64 ro, .bool bh, .int .i64 bv] 41)).heap.size := by simp; omega
        have hON := block_below kN hOV
        go_wp2_with (at_builtin; go_must (refine wpList_appRc (.tmp 53) (.tmp 55) ?_ ?_ (w.heap.size + 1) (.slice r p q) p rs w2.heap.size 1 ⟨3, tx, bk, rh, ro, bh, bv⟩ ?_ ?_ oN hC hpl hb3 ?_; exact rfl; exact rfl; exact rfl; exact rfl; intro a5 c5 w5 own5 gr5 at5; have hO5 := block_grown gr5 hON hOR; obtain ⟨e0, e1, e2, d0, d1, d2⟩ := rowThree hO5; have lv5 := lt_of_cell e0))
        go_roundw
        case rel =>
          have g5 := gr5.size
          have gN := kN.size
          have hR5 := block_grown gr5 (block_below kN hRV) (fun e => by have := (K2 _ e).1; omega)
          have bN := bV.trans (kN.mono bV.size)
          have b5 := bN.grown gr5 bN.size (fun g hg => by have := (K2 g hg).1; omega)
          refine ⟨i, a2, m2, c2, a5, p + 1, c5, by omega, by go_num, by rw [HX.out]; rfl, (Below.heap_setCell _ _ _ _ (by show w.heap.size ≠ O; omega)).trans hR5, ?_, ?_, by simp; omega, b5.setCell (p := ⟨O, 2, none⟩) (by show w.heap.size ≤ O; omega) _⟩
          · have := Joins.block_setCell (i := 2) hO5 (.slice a5 (p + 1) c5)
            simpa using this
          · rw [HX.out]
            have hnO : ∀ g, (Value.slice a5 (p + 1) c5).ownBlock = some g → g ≠ O := fun g hg e => by
              rcases at5 g hg with h | h
              · exact rO g h e
              · omega
            obtain ⟨hl, ho, hi', hd, hd'⟩ := lvV.below kN
            have l5 : OwnV w5 wr.heap.size (.slice a2 m2 c2) m2 vs2 nl := by
              refine ⟨hl, owns_grown ho gr5 (fun g hg hk => by have := (K2 g hk).2; have := t4 g hg; omega), fun j hlt => ?_, hd, hd'⟩
              obtain ⟨x, e1, e2⟩ := hi' j hlt
              exact ⟨x, e1, owns_grown e2 gr5 (fun g hg hk => by have := (K2 g hk).2; have := t5 j x g e1 hg; omega)⟩
            refine ⟨vs2, lo2, hi2, (l5.store3 (q := O) (o := 2) (by omega) (.slice a5 (p + 1) c5)).base (by omega), owns_set (o := 2) own5 hnO (.slice a5 (p + 1) c5), by omega, by simp; omega, t4, t5, fun g hg => ⟨?_, hnO g hg⟩, .inl (by omega)⟩
            rcases at5 g hg with h | h
            · have := (K2 g h).2; exact .inl (by omega)
            · exact .inr (by omega)
        case measure => simp [intOf]

set_option linter.unusedSimpArgs false in
set_option maxHeartbeats 4000000 in
theorem specUndoAll_any (a : Option Addr) (n cap : Nat) (tx : Int) (ab : Option Addr) (nb cb : Nat) (ls : List (List Ch.Row)) (bs : List Ch.Bf) (w : World) (h : LvAt w a n ls) (hs : Ch.lvSize ls ≤ 1048576) (hb : CellsAt w ab (nb * 3) (bfcells bs)) (hnb : nb ≤ 1048576) :
    Calls Try.prog 23 #[.slice a n cap, .int .i64 tx, .slice ab nb cb] w fun e w' => ∃ a' m c' r p q, e = .returned (.agg #[.int .i64 (Ch.undoR ls tx bs).1, .slice a' m c', .slice r p q]) ∧ OwnU w' w.heap.size (.slice a' m c') m (Ch.undoR ls tx bs).2.1 (.slice r p q) p (Ch.undoR ls tx bs).2.2 ∧ Below w.heap.size w w' := by
  have b0 : Below w.heap.size w (w.alloc (.cells #[.int .i64 0, .slice none 0 0, .slice none 0 0] 29)) := (Below.refl _ _).alloc (Nat.le_refl _) _
  have LI := fun W hW => specLv_any a n cap ls W hW hs
  have IT := fun W => l2Txn_any tx W
  have BI := fun W hW => specBefores_any ab nb cb bs W hW hnb
  obtain ⟨c, HC⟩ : ∃ c, Hid (Ch.leavesFault ls = c) := ⟨_, rfl⟩
  rw [HC.out] at LI
  by_cases h0 : c = 0
  rotate_left
  · have hc : (c != 0) = true := by simpa using h0
    have HX := hid (Ch.undoR_code (bs := bs) (Ch.setF_lv (tx := tx) (bs := bs) HC.out hc) hc)
    generalize Ch.undoR ls tx bs = X at *
    go_enter Try.func23, Try.ntmps23
    go_wp2_with fail
    refine (LI _ (h.below b0)).mono ?_
    rintro e w1 ⟨rfl, b1⟩
    obtain ⟨x0, x1, x2, f0, f1, f2⟩ := three_box b1
    have hz := lt_of_cell x0
    have bE := b0.trans (b1.mono b0.size)
    clear b1 LI
    go_wp2
    exact bodyPost_ret (v := .agg #[.int .i64 c, .slice none 0 0, .slice none 0 0]) (by simp [results, Try.results23, go_sem, x0, x1, x2]) rfl ⟨none, 0, 0, none, 0, 0, by rw [HX.out], by rw [HX.out]; exact OwnU.none _ _, ((bE.setCell (p := ⟨w.heap.size, 0, none⟩) (Nat.le_refl _) _).setCell (p := ⟨w.heap.size, 1, none⟩) (Nat.le_refl _) _).setCell (p := ⟨w.heap.size, 2, none⟩) (Nat.le_refl _) _⟩
  subst h0
  cases ht : Ch.inB tx 1 999
  · have HX := hid (Ch.undoR_code (Ch.setF_tx (bs := bs) HC.out ht) rfl)
    generalize Ch.undoR ls tx bs = X at *
    rw [ht] at IT
    go_enter Try.func23, Try.ntmps23
    go_wp2_with fail
    refine (LI _ (h.below b0)).mono ?_
    rintro e w1 ⟨rfl, b1⟩
    obtain ⟨x0, x1, x2, f0, f1, f2⟩ := three_box b1
    have hz := lt_of_cell x0
    have bE := b0.trans (b1.mono b0.size)
    clear b1 LI
    go_wp2_with fail
    refine (IT _).mono ?_
    rintro e w' ⟨rfl, rfl⟩
    go_wp2
    exact bodyPost_ret (v := .agg #[.int .i64 3, .slice none 0 0, .slice none 0 0]) (by simp [results, Try.results23, go_sem, x0, x1, x2]) rfl ⟨none, 0, 0, none, 0, 0, by rw [HX.out], by rw [HX.out]; exact OwnU.none _ _, ((bE.setCell (p := ⟨w.heap.size, 0, none⟩) (Nat.le_refl _) _).setCell (p := ⟨w.heap.size, 1, none⟩) (Nat.le_refl _) _).setCell (p := ⟨w.heap.size, 2, none⟩) (Nat.le_refl _) _⟩
  have hF : Ch.setF ls tx bs = Ch.befFault bs := by unfold Ch.setF; rw [HC.out, ht]; rfl
  obtain ⟨d, HD⟩ : ∃ d, Hid (Ch.befFault bs = d) := ⟨_, rfl⟩
  rw [HD.out] at BI
  rw [ht] at IT
  by_cases hd0 : d = 0
  rotate_left
  · have hd : (d != 0) = true := by simpa using hd0
    have HX := hid (Ch.undoR_code (hF.trans HD.out) hd)
    generalize Ch.undoR ls tx bs = X at *
    go_enter Try.func23, Try.ntmps23
    go_wp2_with fail
    refine (LI _ (h.below b0)).mono ?_
    rintro e w1 ⟨rfl, b1⟩
    obtain ⟨x0, x1, x2, f0, f1, f2⟩ := three_box b1
    have hz := lt_of_cell x0
    have bE := b0.trans (b1.mono b0.size)
    clear b1 LI
    go_wp2_with fail
    refine (IT _).mono ?_
    rintro e w' ⟨rfl, rfl⟩
    go_wp2_with fail
    refine (BI _ (hb.below bE)).mono ?_
    rintro e w2 ⟨rfl, b2⟩
    replace x0 := keep_cell b2 x0
    replace x1 := keep_cell b2 x1
    replace x2 := keep_cell b2 x2
    replace f0 := ((bcell b2).2 w.heap.size 0 hz).trans f0
    replace f1 := ((bcell b2).2 w.heap.size 1 hz).trans f1
    replace f2 := ((bcell b2).2 w.heap.size 2 hz).trans f2
    replace hz := lt_of_cell x0
    replace bE := bE.trans (b2.mono bE.size)
    clear b2 BI
    go_wp2
    exact bodyPost_ret (v := .agg #[.int .i64 d, .slice none 0 0, .slice none 0 0]) (by simp [results, Try.results23, go_sem, x0, x1, x2]) rfl ⟨none, 0, 0, none, 0, 0, by rw [HX.out], by rw [HX.out]; exact OwnU.none _ _, ((bE.setCell (p := ⟨w.heap.size, 0, none⟩) (Nat.le_refl _) _).setCell (p := ⟨w.heap.size, 1, none⟩) (Nat.le_refl _) _).setCell (p := ⟨w.heap.size, 2, none⟩) (Nat.le_refl _) _⟩
  · subst hd0
    have hS : Ch.setF ls tx bs = 0 := hF.trans HD.out
    have hn40 : nb ≤ 40 := by have := Ch.setF_few hS; have := hb.bflen.out; omega
    have hbo : Ch.befOne bs = 0 := by
      have := HD.out
      unfold Ch.befFault at this
      rw [if_neg (by have := Ch.setF_few hS; omega)] at this
      exact this
    have UI := fun W hW hb' => l8Undo_any a n cap tx ab nb cb ls bs W hW HC.out ht hbo hb' hn40
    have HX := hid (Ch.undoR_ok hS)
    rw [HX.out]
    generalize Ch.backAll tx ls bs = st at *
    clear hF hS hbo HX
    go_enter Try.func23, Try.ntmps23
    go_wp2_with fail
    refine (LI _ (h.below b0)).mono ?_
    rintro e w1 ⟨rfl, b1⟩
    obtain ⟨x0, x1, x2, f0, f1, f2⟩ := three_box b1
    have hz := lt_of_cell x0
    have bE := b0.trans (b1.mono b0.size)
    clear b1 LI
    go_wp2_with fail
    refine (IT _).mono ?_
    rintro e w' ⟨rfl, rfl⟩
    go_wp2_with fail
    refine (BI _ (hb.below bE)).mono ?_
    rintro e w2 ⟨rfl, b2⟩
    replace x0 := keep_cell b2 x0
    replace x1 := keep_cell b2 x1
    replace x2 := keep_cell b2 x2
    replace f0 := ((bcell b2).2 w.heap.size 0 hz).trans f0
    replace f1 := ((bcell b2).2 w.heap.size 1 hz).trans f1
    replace f2 := ((bcell b2).2 w.heap.size 2 hz).trans f2
    replace hz := lt_of_cell x0
    replace bE := bE.trans (b2.mono bE.size)
    clear b2 BI
    go_wp2_with fail
    refine (UI _ (h.below bE) (hb.below bE)).mono ?_
    rintro e w3 ⟨a2, m2, c2, r2, p2, q2, rfl, U2, b3⟩
    replace x0 := keep_cell b3 x0
    replace x1 := keep_cell b3 x1
    replace x2 := keep_cell b3 x2
    replace f0 := ((bcell b3).2 w.heap.size 0 hz).trans f0
    replace f1 := ((bcell b3).2 w.heap.size 1 hz).trans f1
    replace f2 := ((bcell b3).2 w.heap.size 2 hz).trans f2
    have bF := bE.trans (b3.mono bE.size)
    go_wp2
    refine bodyPost_ret (v := .agg #[.int .i64 st.1, .slice a2 m2 c2, .slice r2 p2 q2]) (by simp [results, Try.results23, go_sem, x0, x1, x2]) rfl ⟨a2, m2, c2, r2, p2, q2, rfl, ?_, ((bF.setCell (p := ⟨w.heap.size, 0, none⟩) (Nat.le_refl _) _).setCell (p := ⟨w.heap.size, 1, none⟩) (Nat.le_refl _) _).setCell (p := ⟨w.heap.size, 2, none⟩) (Nat.le_refl _) _⟩
    exact (((U2.low hz _).low hz _).low hz _).base (Nat.le_of_lt hz)
end Go.Proofs.Ythfanfnbjldddaa


/- Leaves that are merged, evened and packed: plain. -/
namespace Go.Proofs.Ythfanfnbjldddaa.Ch
/-- What a question for two leaves is told. -/
def pairAsked (ls : List (List Row)) (at_ : Int) : Int := if leavesFault ls != 0 then leavesFault ls else if inB at_ 0 ((ls.length : Int) - 2) then 0 else 3
/-- The rows of the leaf at k and of the one behind it. -/
def pairAt (ls : List (List Row)) (k : Nat) : List Row := ls.getD k [] ++ ls.getD (k + 1) []
/-- Leaves in place of two. -/
def twoIn (ls : List (List Row)) (k : Nat) (mid : List (List Row)) : List (List Row) := ls.take k ++ mid ++ ls.drop (k + 2)
def halfOf (l : List Row) : Nat := (l.length + 1) / 2
def evens (l : List Row) : List (List Row) := [l.take (halfOf l), l.drop (halfOf l)]
/-- What MergeLeaves answers. -/
def mergeR (ls : List (List Row)) (at_ : Int) : Int × List (List Row) :=
  if pairAsked ls at_ != 0 then (pairAsked ls at_, []) else if 4 < (pairAt ls at_.toNat).length then (2, []) else (0, twoIn ls at_.toNat [pairAt ls at_.toNat])
/-- What EvenLeaves answers. -/
def evenR (ls : List (List Row)) (at_ : Int) : Int × List (List Row) :=
  if pairAsked ls at_ != 0 then (pairAsked ls at_, []) else (0, twoIn ls at_.toNat (evens (pairAt ls at_.toNat)))
/-- The i-th piece of four. -/
def pieceOf (F : List Row) (i : Nat) : List Row := (F.drop (i * 4)).take 4
def piecesN (F : List Row) : Nat := (F.length + 3) / 4
def pack (F : List Row) : List (List Row) := (List.range (piecesN F)).map (pieceOf F)
/-- What PackLeaves answers. -/
def packR (ls : List (List Row)) : Int × List (List Row) := if leavesFault ls != 0 then (leavesFault ls, []) else (0, pack ls.flatten)
/-- What FillOf answers. -/
def fillR (ls : List (List Row)) : Int × Int :=
  if leavesFault ls != 0 then (leavesFault ls, 0) else if ls.length = 0 then (4, 0) else (0, (ls.flatten.length : Int) * 100 / (4 * (ls.length : Int)))
def Row.same (a b : Row) : Bool := a.k == b.k && (a.v == b.v && a.g == b.g)
/-- Rows one by one the same. -/
def sameL : List Row → List Row → Bool
  | [], [] => true
  | a :: l, b :: m => a.same b && sameL l m
  | [], _ :: _ => false
  | _ :: _, [] => false
theorem Row.same_self (a : Row) : a.same a = true := by simp [Row.same]
theorem sameL_self (l : List Row) : sameL l l = true := by
  induction l with
  | nil => rfl
  | cons a l ih => simp [sameL, ih, Row.same_self]
theorem sameL_len (l m : List Row) (h : l.length ≠ m.length) : sameL l m = false := by
  induction l generalizing m with
  | nil => cases m with
    | nil => simp at h
    | cons b m => rfl
  | cons a l ih => cases m with
    | nil => rfl
    | cons b m => simp [sameL, ih m (by simpa using h)]
theorem sameL_at (l m : List Row) (k : Nat) (h : k < l.length) (h' : k < m.length) : sameL (l.drop k) (m.drop k) = ((l.getD k Row.zero).same (m.getD k Row.zero) && sameL (l.drop (k + 1)) (m.drop (k + 1))) := by
  rw [List.drop_eq_getElem_cons h, List.drop_eq_getElem_cons h', sameL]
  simp [List.getD, h, h']
/-- What SameRows answers. -/
def sameR (ps qs : List (List Row)) : Bool := leavesFault ps == 0 && (leavesFault qs == 0 && sameL ps.flatten qs.flatten)
theorem sameR_yes {ps qs : List (List Row)} (h : leavesFault ps = 0) (h' : leavesFault qs = 0) (hf : ps.flatten = qs.flatten) : sameR ps qs = true := by
  rw [sameR, h, h', hf, sameL_self]; rfl
theorem sameR_no {ps qs : List (List Row)} (h : (leavesFault ps != 0) = true) : sameR ps qs = false := by
  have h : leavesFault ps ≠ 0 := by simpa using h
  simp [sameR, h]
theorem sameR_no2 {ps qs : List (List Row)} (h : (leavesFault qs != 0) = true) : sameR ps qs = false := by
  have h : leavesFault qs ≠ 0 := by simpa using h
  simp [sameR, h]
theorem sameR_ok {ps qs : List (List Row)} (h : leavesFault ps = 0) (h' : leavesFault qs = 0) : sameR ps qs = sameL ps.flatten qs.flatten := by
  rw [sameR, h, h']; rfl

theorem two_flat (ls : List (List Row)) (k : Nat) (mid : List (List Row)) (hk : k + 1 < ls.length) (hm : mid.flatten = pairAt ls k) : (twoIn ls k mid).flatten = ls.flatten := by
  have e : ls = ls.take k ++ [ls.getD k [], ls.getD (k + 1) []] ++ ls.drop (k + 2) := by
    rw [List.append_assoc, show [ls.getD k [], ls.getD (k + 1) []] ++ ls.drop (k + 2) = ls.getD k [] :: ls.getD (k + 1) [] :: ls.drop (k + 2) from rfl, ← lv_drop ls (k + 1) hk, ← lv_drop ls k (by omega), List.take_append_drop]
  unfold twoIn
  conv => rhs; rw [e]
  simp only [List.flatten_append, hm, pairAt, List.flatten_cons, List.flatten_nil, List.append_nil]
theorem two_len (ls : List (List Row)) (k : Nat) (mid : List (List Row)) (hk : k + 1 < ls.length) : (twoIn ls k mid).length + 2 = ls.length + mid.length := by
  simp [twoIn, List.length_take, List.length_drop]; omega
theorem evens_flat (l : List Row) : (evens l).flatten = l := by simp [evens]
theorem pieces_take (F : List Row) (k : Nat) : ((List.range k).map (pieceOf F)).flatten = F.take (k * 4) := by
  induction k with
  | zero => simp
  | succ k ih =>
    rw [List.range_succ, List.map_append, List.flatten_append, ih]
    simp only [List.map_cons, List.map_nil, List.flatten_cons, List.flatten_nil, List.append_nil, pieceOf]
    rw [show (k + 1) * 4 = k * 4 + 4 by omega, List.take_add]
theorem pack_flat (F : List Row) : (pack F).flatten = F := by
  unfold pack
  rw [pieces_take]
  exact List.take_of_length_le (by unfold piecesN; omega)
theorem pack_len (F : List Row) : (pack F).length = piecesN F := by simp [pack]
theorem piece_len (F : List Row) (i : Nat) : (pieceOf F i).length = min 4 (F.length - i * 4) := by simp [pieceOf]
theorem flat_up (ls : List (List Row)) (h : ∀ l ∈ ls, l.length ≤ 4) : ls.flatten.length ≤ 4 * ls.length := by
  induction ls with
  | nil => simp
  | cons l ls ih =>
    have h1 := ih fun m hm => h m (List.mem_cons_of_mem _ hm)
    have h2 := h l List.mem_cons_self
    simp only [List.flatten_cons, List.length_append, List.length_cons]
    omega
theorem flat_lo (ls : List (List Row)) (h : ∀ l ∈ ls, l.length ≠ 0) : ls.length ≤ ls.flatten.length := by
  induction ls with
  | nil => simp
  | cons l ls ih =>
    have h1 := ih fun m hm => h m (List.mem_cons_of_mem _ hm)
    have h2 := h l List.mem_cons_self
    simp only [List.flatten_cons, List.length_append, List.length_cons]
    omega
/-- Packed leaves are right, and no more of them than there were. -/
theorem pack_good {ls : List (List Row)} (h : leavesFault ls = 0) : leavesFault (pack ls.flatten) = 0 ∧ (pack ls.flatten).length ≤ ls.length := by
  obtain ⟨h1, h2, h3, h4⟩ := (good_iff ls).1 h
  have hu := flat_up ls fun l hl => (h2 l hl).2
  have hn : (pack ls.flatten).length ≤ ls.length := by rw [pack_len]; unfold piecesN; omega
  refine ⟨(good_iff _).2 ⟨by omega, ?_, ?_, ?_⟩, hn⟩
  · intro l hl
    obtain ⟨i, hi, rfl⟩ := List.mem_map.1 hl
    have hi := List.mem_range.1 hi
    unfold piecesN at hi
    rw [piece_len]
    omega
  · rw [pack_flat]; exact h3
  · rw [pack_flat]; exact h4
theorem two_good {ls : List (List Row)} (h : leavesFault ls = 0) {k : Nat} (hk : k + 1 < ls.length) {mid : List (List Row)} (hm : mid.flatten = pairAt ls k) (hl : mid.length ≤ 2) (hg : ∀ l ∈ mid, l.length ≠ 0 ∧ l.length ≤ 4) : leavesFault (twoIn ls k mid) = 0 := by
  obtain ⟨h1, h2, h3, h4⟩ := (good_iff ls).1 h
  have hn := two_len ls k mid hk
  refine (good_iff _).2 ⟨by omega, ?_, ?_, ?_⟩
  · intro l hl
    unfold twoIn at hl
    rcases List.mem_append.1 hl with hl | hl
    · rcases List.mem_append.1 hl with hl | hl
      · exact h2 l (List.mem_of_mem_take hl)
      · exact hg l hl
    · exact h2 l (List.mem_of_mem_drop hl)
  · rw [two_flat ls k mid hk hm]; exact h3
  · rw [two_flat ls k mid hk hm]; exact h4
theorem getD_mem (ls : List (List Row)) (k : Nat) (h : k < ls.length) : ls.getD k [] ∈ ls := by
  simp [List.getD, List.getElem?_eq_getElem h]
theorem pair_pos {ls : List (List Row)} (h : leavesFault ls = 0) {k : Nat} (hk : k + 1 < ls.length) : 2 ≤ (pairAt ls k).length ∧ (pairAt ls k).length ≤ 8 := by
  obtain ⟨h1, h2, h3, h4⟩ := (good_iff ls).1 h
  have a := h2 _ (getD_mem ls k (by omega))
  have b := h2 _ (getD_mem ls (k + 1) hk)
  simp only [pairAt, List.length_append]
  omega
theorem merge_good {ls : List (List Row)} (h : leavesFault ls = 0) {k : Nat} (hk : k + 1 < ls.length) (h4 : ¬ 4 < (pairAt ls k).length) : leavesFault (twoIn ls k [pairAt ls k]) = 0 := by
  have := pair_pos h hk
  refine two_good h hk (by simp) (by simp) fun l hl => ?_
  rw [List.mem_singleton] at hl
  subst hl
  omega
theorem even_good {ls : List (List Row)} (h : leavesFault ls = 0) {k : Nat} (hk : k + 1 < ls.length) : leavesFault (twoIn ls k (evens (pairAt ls k))) = 0 := by
  have := pair_pos h hk
  refine two_good h hk (evens_flat _) (by simp [evens]) fun l hl => ?_
  simp only [evens, List.mem_cons, List.not_mem_nil, or_false] at hl
  rcases hl with rfl | rfl
  · rw [List.length_take]; unfold halfOf; omega
  · rw [List.length_drop]; unfold halfOf; omega
theorem asked_ok {ls : List (List Row)} {at_ : Int} (h : pairAsked ls at_ = 0) : leavesFault ls = 0 ∧ ∃ k : Nat, at_ = (k : Int) ∧ k + 1 < ls.length := by
  unfold pairAsked at h
  split at h
  · rename_i hc
    simp [h] at hc
  · rename_i hc
    split at h
    · rename_i hb
      simp [inB] at hb
      exact ⟨by simpa using hc, at_.toNat, by omega, by omega⟩
    · simp at h
theorem pack_pack (F : List Row) : pack (pack F).flatten = pack F := by rw [pack_flat]
theorem fillR_ok {ls : List (List Row)} (h : leavesFault ls = 0) : fillR ls = if ls.length = 0 then (4, 0) else (0, (ls.flatten.length : Int) * 100 / (4 * (ls.length : Int))) := by
  rw [fillR, h]; rfl
theorem fillR_no {ls : List (List Row)} (h : (leavesFault ls != 0) = true) : fillR ls = (leavesFault ls, 0) := by rw [fillR, if_pos h]
theorem packR_ok {ls : List (List Row)} (h : leavesFault ls = 0) : packR ls = (0, pack ls.flatten) := by rw [packR, h]; rfl
theorem packR_no {ls : List (List Row)} (h : (leavesFault ls != 0) = true) : packR ls = (leavesFault ls, []) := by rw [packR, if_pos h]
theorem mergeR_no {ls : List (List Row)} {at_ : Int} (h : (pairAsked ls at_ != 0) = true) : mergeR ls at_ = (pairAsked ls at_, []) := by rw [mergeR, if_pos h]
theorem evenR_no {ls : List (List Row)} {at_ : Int} (h : (pairAsked ls at_ != 0) = true) : evenR ls at_ = (pairAsked ls at_, []) := by rw [evenR, if_pos h]
theorem mergeR_ok {ls : List (List Row)} {k : Nat} (h : pairAsked ls (k : Int) = 0) : mergeR ls (k : Int) = if 4 < (pairAt ls k).length then (2, []) else (0, twoIn ls k [pairAt ls k]) := by rw [mergeR, h]; rfl
theorem evenR_ok {ls : List (List Row)} {k : Nat} (h : pairAsked ls (k : Int) = 0) : evenR ls (k : Int) = (0, twoIn ls k (evens (pairAt ls k))) := by rw [evenR, h]; rfl
theorem fill_more {ls : List (List Row)} (h : leavesFault ls = 0) : (fillR (pack ls.flatten)).1 = (fillR ls).1 ∧ (fillR ls).2 ≤ (fillR (pack ls.flatten)).2 := by
  obtain ⟨hp, hn⟩ := pack_good h
  obtain ⟨h1, h2, h3, h4⟩ := (good_iff ls).1 h
  have hlo := flat_lo ls fun l hl => (h2 l hl).1
  rw [fillR_ok hp, fillR_ok h, pack_flat]
  by_cases h0 : ls.length = 0
  · have : (pack ls.flatten).length = 0 := by omega
    rw [if_pos this, if_pos h0]
    exact ⟨rfl, Int.le_refl _⟩
  · have h0' : (pack ls.flatten).length ≠ 0 := by rw [pack_len]; unfold piecesN; omega
    rw [if_neg h0', if_neg h0]
    refine ⟨rfl, ?_⟩
    show (ls.flatten.length : Int) * 100 / (4 * (ls.length : Int)) ≤ (ls.flatten.length : Int) * 100 / (4 * ((pack ls.flatten).length : Int))
    generalize ls.flatten.length = F at *
    generalize (pack ls.flatten).length = P at *
    generalize ls.length = L at *
    have e1 : (F : Int) * 100 / (4 * (L : Int)) = ((F * 100 / (4 * L) : Nat) : Int) := by push_cast; rfl
    have e2 : (F : Int) * 100 / (4 * (P : Int)) = ((F * 100 / (4 * P) : Nat) : Int) := by push_cast; rfl
    rw [e1, e2]
    exact Int.ofNat_le.2 (Nat.div_le_div_left (by omega) (by omega))
end Go.Proofs.Ythfanfnbjldddaa.Ch


/- FillOf of the model and of the program. -/
namespace Go.Proofs.Ythfanfnbjldddaa
open Go.RowKit

theorem own_rows_len {w : World} {B m : Nat} {v : Value} {F : List Ch.Row} (h : w.ownsRow B 105 3 v m (rcells F)) : Hid (m = F.length) := by
  have h1 := h.1
  rw [rcells_len] at h1
  show _ = _
  omega
theorem quo_is (F n : Nat) (hF : F ≤ 1048576) : ∃ Q : Nat, Q ≤ 104857600 ∧ ((F : Int) * 100).tdiv (4 * (n : Int)) = (Q : Int) ∧ Hid ((F : Int) * 100 / (4 * (n : Int)) = (Q : Int)) := by
  have e : (F : Int) * 100 / (4 * (n : Int)) = ((F * 100 / (4 * n) : Nat) : Int) := by push_cast; rfl
  refine ⟨F * 100 / (4 * n), Nat.le_trans (Nat.div_le_self _ _) (by omega), ?_, e⟩
  rw [Int.tdiv_eq_ediv_of_nonneg (by omega), e]

/-- RowsOf of right leaves. -/
theorem implRowsOf_ok (a : Option Addr) (n cap : Nat) (ls : List (List Ch.Row)) (w : World) (h : LvAt w a n ls) (hs : Ch.lvSize ls ≤ 1048576) (h0 : Ch.leavesFault ls = 0) (m : Nat) (hm : Hid (ls.flatten.length = m)) :
    Calls Try.prog 20 #[.slice a n cap] w fun e w' => ∃ a' c', e = .returned (.agg #[.int .i64 0, .slice a' m c']) ∧ w'.ownsRow w.heap.size 105 3 (.slice a' m c') m (rcells ls.flatten) ∧ Below w.heap.size w w' := by
  have RI := implRowsOf_any a n cap ls w h hs
  rw [Ch.rowsR_ok h0] at RI
  refine RI.mono ?_
  rintro e w2 ⟨a', m', c', rfl, hm', own, b2⟩
  have HM := (own_rows_len own).out
  have hm := hm.out
  subst HM hm
  exact ⟨a', c', rfl, own, b2⟩
/-- The model's list of all rows, its length named. -/
theorem specRows_m (a : Option Addr) (n cap : Nat) (ls : List (List Ch.Row)) (w : World) (h : LvAt w a n ls) (hs : Ch.lvSize ls ≤ 1048576) (hg : ∀ k, k < n → (ls.getD k []).length ≠ 0) (m : Nat) (hm : Hid (ls.flatten.length = m)) :
    Calls Try.prog 80 #[.slice a n cap] w fun e w' => ∃ a' c', e = .returned (.slice a' m c') ∧ w'.ownsRow w.heap.size 105 3 (.slice a' m c') m (rcells ls.flatten) ∧ Below w.heap.size w w' := by
  have hm := hm.out
  subst hm
  exact specRows_any a n cap ls w h hs hg

end Go.Proofs.Ythfanfnbjldddaa


/- SameRows of the model and of the program. -/
namespace Go.Proofs.Ythfanfnbjldddaa
open Go.RowKit

theorem bel_drewN {B : Nat} {w w' : World} (h : Below B w w') (q : Nat) : Below B w (w'.drewN q) := ⟨h.os, h.tape, h.output, h.size, h.block⟩
/-- Two rows compared. -/
theorem equalRow (k v : Int) (g : Bool) (k' v' : Int) (g' : Bool) (w : World) :
    (Op.equalIn 10000 105 (.agg #[.int .i64 k, .int .i64 v, .bool g]) (.agg #[.int .i64 k', .int .i64 v', .bool g'])).run Try.prog w = .ok (k == k' && (v == v' && g == g')) w := by
  have hS : Try.prog.underlying 105 = some (.struct (Try.prog.fieldsOf 105)) := by kernel_rfl
  have hp : Try.prog.stoodInHeld 105 = false := by kernel_rfl
  have u2 := Try.underlying2
  have a2 := Try.isAgg2
  have z2 := Try.sizeOf2
  have u4 := Try.underlying4
  have a4 := Try.isAgg4
  have z4 := Try.sizeOf4
  rw [show (10000 : Nat) = 9999 + 1 from rfl, run_equalIn_agg w 9999 105 _ _ hS hp]
  simp only [Program.fieldsOf, Try.underlying105]
  go_simp
  cases g <;> cases g' <;> by_cases h1 : k = k' <;> by_cases h2 : v = v' <;> simp [h1, h2]
theorem neqRow (k v : Int) (g : Bool) (k' v' : Int) (g' : Bool) (w : World) :
    (binOp .neq 105 (.agg #[.int .i64 k, .int .i64 v, .bool g]) (.agg #[.int .i64 k', .int .i64 v', .bool g'])).run Try.prog w = .ok (.bool (!(k == k' && (v == v' && g == g')))) w := by
  rw [run_neq_struct, equalRow]
  rfl

theorem rowsR_mem (ls : List (List Ch.Row)) : ((Ch.rowsR ls).1 != 0) = (Ch.leavesFault ls != 0) := by
  unfold Ch.rowsR
  split
  · rename_i h; rw [h]
  · rfl

end Go.Proofs.Ythfanfnbjldddaa


/- What a put tells of all that the law FnLeaves asks; rows compared. -/
namespace Go.Proofs.Ythfanfnbjldddaa
open Go.RowKit

theorem Ch.asked_in {ls : List (List Ch.Row)} (hg : Ch.leavesFault ls = 0) {key : Int} (h0 : 0 ≤ key) (h1 : key ≤ 99) : Ch.asked ls key = 0 := by
  unfold Ch.asked
  rw [hg]
  have : Ch.inB key 0 99 = true := by simp [Ch.inB]; omega
  rw [this]; rfl
theorem Ch.fault_key {r : Ch.Row} (h : r.fault = 0) : 0 ≤ r.k ∧ r.k ≤ 99 := by
  unfold Ch.Row.fault Ch.rowFault at h
  cases hb : Ch.inB r.k 0 99
  · rw [hb] at h; simp at h
  · exact inB_key hb
/-- What a row that was put is told: it is found, dropped, the others stay, and it lies in its leaf. -/
theorem Ch.put_tells {ls rl : List (List Ch.Row)} {r : Ch.Row} (h : Ch.putR ls r = (0, rl)) :
    Ch.leavesFault ls = 0 ∧ Ch.leavesFault rl = 0 ∧ Ch.findRR rl r.k = (0, [r]) ∧ (∃ dl, Ch.dropR rl r.k = (0, dl) ∧ Ch.leavesFault dl = 0 ∧ Ch.findRR dl r.k = (4, [])) ∧
    (∀ k : Int, 0 ≤ k → k ≤ 99 → k ≠ r.k → (Ch.findRR ls k).2 = (Ch.findRR rl k).2) ∧
    (∃ i j : Nat, i < rl.length ∧ Ch.leafFor rl r.k = (0, (i : Int)) ∧ j < (rl.getD i []).length ∧ (rl.getD i []).getD j Ch.Row.zero = r) := by
  have hl : Ch.leavesFault ls = 0 := by
    unfold Ch.putR at h
    by_cases hc : (Ch.leavesFault ls != 0) = true
    · rw [if_pos hc] at h
      simp at hc
      exact absurd (Prod.mk.inj h).1 hc
    · simpa using hc
  have hr : r.fault = 0 := by
    unfold Ch.putR at h
    rw [hl] at h
    by_cases hc : (r.fault != 0) = true
    · rw [if_neg (by simp), if_pos hc] at h
      simp at hc
      exact absurd (Prod.mk.inj h).1 hc
    · simpa using hc
  have hp : (Ch.put ls r).length ≤ 60 ∧ rl = Ch.put ls r := by
    unfold Ch.putR at h
    rw [hl, hr] at h
    by_cases hc : 60 < (Ch.put ls r).length
    · rw [if_neg (by simp), if_neg (by simp), if_pos hc] at h
      exact absurd (Prod.mk.inj h).1 (by omega)
    · rw [if_neg (by simp), if_neg (by simp), if_neg hc] at h
      exact ⟨by omega, (Prod.mk.inj h).2.symm⟩
  obtain ⟨h60, rfl⟩ := hp
  have hg := Ch.put_good hl hr h60
  obtain ⟨k0, k1⟩ := Ch.fault_key hr
  have ha := Ch.asked_in hg k0 k1
  have hf := Ch.put_find (r := r) hl
  have hd := Ch.drop_good hg r.k
  have hda := Ch.asked_in hd k0 k1
  obtain ⟨i, j, hi, hj, hrow, _⟩ := Ch.find_some hf
  refine ⟨hl, hg, Ch.findRR_some (by rw [ha]; rfl) hf, ⟨_, Ch.dropR_some (by rw [ha]; rfl) hf, hd, Ch.findRR_none (by rw [hda]; rfl) (Ch.drop_find _ _)⟩, fun k h0 h1 hne => ?_, i, j, hi, ?_, hj, hrow⟩
  · have e1 := Ch.asked_in hl h0 h1
    have e2 := Ch.asked_in hg h0 h1
    have e3 := Ch.put_find_other (r := r) hl hne
    cases hq : Ch.findR ls k with
    | none => rw [Ch.findRR_none (by rw [e1]; rfl) hq, Ch.findRR_none (by rw [e2]; rfl) (e3.trans hq)]
    | some x => rw [Ch.findRR_some (by rw [e1]; rfl) hq, Ch.findRR_some (by rw [e2]; rfl) (e3.trans hq)]
  · rw [leafFor_ok (by rw [ha]; rfl) (by omega), Ch.forAt_found hg hi hj (by unfold Ch.keyAt; rw [hrow])]

set_option maxHeartbeats 800000 in
theorem lwRows_any (a a' : Option Addr) (n cap n' cap' : Nat) (rs qs : List Ch.Row) (w : World) (h : CellsAt w a (n * 3) (rcells rs)) (h' : CellsAt w a' (n' * 3) (rcells qs)) (hn : n ≤ 1048576) (hn' : n' ≤ 1048576) :
    Calls Try.prog 21 #[.slice a n cap, .slice a' n' cap'] w fun e w' => e = .returned (.bool (Ch.sameL rs qs)) ∧ Below w.heap.size w w' := by
  have HL := h.rlen
  have HL' := h'.rlen
  by_cases hnn : n = n'
  · subst hnn
    have hne : ((n : Int) != n) = false := by simp
    go_enter Try.func21, Try.ntmps21
    go_wp2
    go_loopw [5] (fun i wr => ∃ k : Nat, k ≤ n ∧ i = .int .i64 k ∧ Hid (Ch.sameL rs qs = Ch.sameL (rs.drop k) (qs.drop k)) ∧ Below w.heap.size w wr) (fun i _ => n - (intOf i).toNat)
    case atStart => exact ⟨0, Nat.zero_le _, rfl, rfl, Below.refl _ _⟩
    case round =>
      obtain ⟨k, hk, rfl, HS, hB⟩ := hrel
      by_cases hlt : k < n
      · have HA := hid (Ch.sameL_at rs qs k (by have := HL.out; omega) (by have := HL'.out; omega))
        obtain ⟨b, off, rfl, hc0, hc1, hc2⟩ := (h.below hB).row hlt
        obtain ⟨b', off', rfl, hd0, hd1, hd2⟩ := (h'.below hB).row hlt
        generalize rs.getD k Ch.Row.zero = r at *
        generalize qs.getD k Ch.Row.zero = q at *
        obtain ⟨rk, rv, rg⟩ := r
        obtain ⟨qk, qv, qg⟩ := q
        simp only at hc0 hc1 hc2 hd0 hd1 hd2
        have hneq := fun W => neqRow rk rv rg qk qv qg W
        have HE : Hid (Ch.Row.same ⟨rk, rv, rg⟩ ⟨qk, qv, qg⟩ = (rk == qk && (rv == qv && rg == qg))) := rfl
        generalize (rk == qk && (rv == qv && rg == qg)) = same at *
        cases same
        · simp only [Bool.not_false] at hneq
          go_wp2
          go_quiet (fail)
          go_wp2
          go_ret
          exact ⟨by rw [HS.out, HA.out, HE.out]; rfl, bel_drewN hB _⟩
        · simp only [Bool.not_true] at hneq
          go_wp2
          go_quiet (fail)
          go_wp2
          go_roundw
          case rel => exact ⟨k + 1, by omega, by go_num, (by show _ = _; rw [HS.out, HA.out, HE.out]; rfl), bel_drewN hB _⟩
          case measure => simp [intOf]; omega
      · obtain rfl : k = n := by omega
        go_wp2
        go_ret
        refine ⟨?_, hB⟩
        rw [HS.out, List.drop_of_length_le (by have := HL.out; omega), List.drop_of_length_le (by have := HL'.out; omega)]
        rfl
  · have hne : ((n : Int) != (n' : Int)) = true := by simp; omega
    have hne2 : ¬ (n : Int) = (n' : Int) := by omega
    go_enter Try.func21, Try.ntmps21
    go_wp2
    go_ret
    exact ⟨by rw [Ch.sameL_len _ _ (by have := HL.out; have := HL'.out; omega)]; rfl, Below.refl _ _⟩
end Go.Proofs.Ythfanfnbjldddaa


/- The law FnSets. -/
namespace Go.Proofs.Ythfanfnbjldddaa
open Go.RowKit

theorem fieldUr (c : Int) (a : Option Addr) (m k : Nat) (r : Option Addr) (p q : Nat) (W : World) : (Instr.field 29 (.agg #[.int .i64 c, .slice a m k, .slice r p q]) 0).run Try.prog W = .ok (.int .i64 c) W := by kernel_rfl
theorem fieldRs1 (c : Int) (a : Option Addr) (m k : Nat) (W : World) : (Instr.field 44 (.agg #[.int .i64 c, .slice a m k]) 1).run Try.prog W = .ok (.slice a m k) W := by kernel_rfl
theorem Ch.sets_walk {ls ls' : List (List Ch.Row)} {tx key v : Int} {h : Bool} {rs : List Ch.Rec} (hr : Ch.setR ls tx key h v = (0, ls', rs)) :
    ∃ bh bv ls'' h3 o3, Ch.leavesFault ls = 0 ∧ Ch.leavesFault ls' = 0 ∧ Ch.leavesFault ls'' = 0 ∧ rs = [⟨2, tx, key, bh, bv, h, v⟩] ∧ Ch.bfOf ls key = ⟨key, bh, bv⟩ ∧ Ch.valR ls' key = (if h then (0, v) else (4, 0)) ∧
      Ch.undoR ls' tx [⟨key, bh, bv⟩] = (0, ls'', [⟨3, tx, key, h3, o3, bh, bv⟩]) ∧ Ch.noGhost ls.flatten = Ch.noGhost ls''.flatten := by
  obtain ⟨hg, _, hk, _, hg', hrs, _, hh, ls'', hu, hg'', hs⟩ := Ch.sets_tell hr
  have hbk := Ch.bf_key key (Ch.has ls key)
  refine ⟨(Ch.bf key (Ch.has ls key)).h, (Ch.bf key (Ch.has ls key)).v, ls'', (Ch.bf key (Ch.has ls' key)).h, (Ch.bf key (Ch.has ls' key)).v, hg, hg', hg'', hrs, ?_, ?_, ?_, Ch.noGhost_same hg hg'' fun k => (hs k).symm⟩
  · rw [Ch.bfOf_ok (by rw [Ch.asked_of hg hk]; rfl)]
    generalize Ch.bf key (Ch.has ls key) = b at *
    cases b
    simp at hbk ⊢
    exact hbk
  · have hx := hh key
    rw [if_pos rfl] at hx
    cases h
    · exact Ch.valR_none (by rw [Ch.asked_of hg' hk]; rfl) hx
    · exact Ch.valR_some (by rw [Ch.asked_of hg' hk]; rfl) hx
  · have e : (⟨key, (Ch.bf key (Ch.has ls key)).h, (Ch.bf key (Ch.has ls key)).v⟩ : Ch.Bf) = Ch.bf key (Ch.has ls key) := by
      generalize Ch.bf key (Ch.has ls key) = b at *
      cases b
      simp at hbk ⊢
      exact hbk.symm
    rw [e]
    exact hu
theorem new_befA (w : World) (k : Int) (g : Bool) (v : Int) (t : TypeId) : CellsAt (w.alloc (.cells #[.int .i64 k, .bool g, .int .i64 v] t)) (some ⟨w.heap.size, 0, none⟩) (1 * 3) (bfcells [⟨k, g, v⟩]) := by
  refine ⟨rfl, fun _ => ⟨_, _, rfl, fun i hi => ?_⟩⟩
  rw [Nat.zero_add]
  have := cell_of_row (w.alloc (.cells #[.int .i64 k, .bool g, .int .i64 v] t)) _ i _ _ _ (heap_alloc_new w _)
  rw [this]
  simp [bfcells]
theorem rec_one {w : World} {r : Option Addr} {x : Ch.Rec} (h : CellsAt w r (1 * 7) (rc7 [x])) : ∃ b o, r = some ⟨b, o, none⟩ ∧ w.cell? ⟨b, o, none⟩ = some (.int .i64 x.kd) ∧ w.cell? ⟨b, o + 3, none⟩ = some (.bool x.hd) ∧ w.cell? ⟨b, o + 4, none⟩ = some (.int .i64 x.ol) := by
  obtain ⟨b, o, ha, hc⟩ := h.2 (by omega)
  refine ⟨b, o, ha, ?_, ?_, ?_⟩
  · have := hc 0 (by omega); simpa [rc7, c7] using this
  · have := hc 3 (by omega); simpa [rc7, c7] using this
  · have := hc 4 (by omega); simpa [rc7, c7] using this
theorem undo_box {W : World} {c : Value} {l r : Value} {t : TypeId} {g : Nat} (h : W.heap[g]? = some (.cells #[c, l, r] t (0, 0))) : W.cell? ⟨g, 0, none⟩ = some c ∧ W.cell? ⟨g, 1, none⟩ = some l ∧ W.cell? ⟨g, 2, none⟩ = some r :=
  ⟨cell_of_row _ _ _ _ _ _ h, cell_of_row _ _ _ _ _ _ h, cell_of_row _ _ _ _ _ _ h⟩
theorem two_of {W : World} {c l : Value} {t : TypeId} {g : Nat} (h : W.heap[g]? = some (.cells #[c, l] t (0, 0))) : W.cell? ⟨g, 0, none⟩ = some c ∧ W.cell? ⟨g, 1, none⟩ = some l :=
  ⟨cell_of_row _ _ _ _ _ _ h, cell_of_row _ _ _ _ _ _ h⟩

set_option linter.unusedSimpArgs false in
set_option maxRecDepth 100000 in
set_option maxHeartbeats 16000000 in
theorem lawSets_any (a : Option Addr) (n cap : Nat) (zs : List Int) (w : World) (h : CellsAt w a n (bts zs)) (hb : IsB zs) :
    Calls Try.prog 3 #[.slice a n cap] w fun e w' => e = .returned (.bool true) ∧ Below w.heap.size w w' := by
  by_cases hbig : 1048576 < n
  · have hd : decide ((1048576 : Int) < (n : Int)) = true := by simp; omega
    have BI := fun W => big_any a n cap W
    rw [hd] at BI
    go_enter Try.func3, Try.ntmps3
    go_wp2_with fail
    refine (BI _).mono ?_
    rintro e w' ⟨rfl, rfl⟩
    go_wp2
    go_ret
    exact ⟨rfl, Below.refl _ _⟩
  have hn : n ≤ 1048576 := by omega
  have hd : decide ((1048576 : Int) < (n : Int)) = false := by simp; omega
  have BI := fun W => big_any a n cap W
  rw [hd] at BI
  clear hbig
  go_enter Try.func3, Try.ntmps3
  go_wp2_with fail
  refine (BI _).mono ?_
  rintro e w' ⟨rfl, hw'⟩
  obtain rfl := hw'.symm
  go_wp2_with fail
  refine (drawSet_any a n cap zs _ h hb hn).mono ?_
  rintro e w1 ⟨ls, a1, n1, c1, tx, key, has, v, hbe, rfl, o1, b1⟩
  have hs : Ch.lvSize ls ≤ 1048576 := by have := hbe.1; omega
  have hsa := small_at hs
  have II := implSetValue_any a1 n1 c1 tx key has v ls w1 (o1.at hsa) hs
  have SS : ∀ W, OwnLv W w.heap.size (.slice a1 n1 c1) n1 ls → Calls Try.prog 14 #[.slice a1 n1 c1, .int .i64 tx, .int .i64 key, .bool has, .int .i64 v] W fun e W' => ∃ a' m c' r p q, e = .returned (.agg #[.int .i64 (Ch.setR ls tx key has v).1, .slice a' m c', .slice r p q]) ∧ Below W.heap.size W W' := fun W hW => (specSetValue_any a1 n1 c1 tx key has v ls W (OwnLv.at hW hsa) hs).mono (by rintro e W' ⟨a', m, c', r, p, q, h1, _, h4⟩; exact ⟨a', m, c', r, p, q, h1, h4⟩)
  have BO := fun (W : World) (hW : OwnLv W w.heap.size (.slice a1 n1 c1) n1 ls) => implBeforeOf_any a1 n1 c1 key ls W (OwnLv.at hW hsa) hs
  have hsm := (Ch.setR_small (ls := ls) (tx := tx) (key := key) (v := v) (has := has)).1
  obtain ⟨c, ls', rs, hR⟩ : ∃ c ls' rs, Hid (Ch.setR ls tx key has v = (c, ls', rs)) := ⟨_, _, _, rfl⟩
  rw [hR.out] at II SS hsm
  simp only at II SS hsm
  clear hbe
  go_wp2_with fail
  refine II.mono ?_
  rintro e w2 ⟨a2, m2, c2, r2, p2, q2, rfl, o2, b2⟩
  have bE := b1.trans (b2.mono b1.size)
  have o1 := o1.below b2
  have bA2 : ∀ o, Below w2.heap.size w2 (w2.alloc o) := fun o => (Below.refl _ _).alloc (Nat.le_refl _) _
  clear II b1 b2
  by_cases hc0 : c = 0
  rotate_left
  · have hc : (c != 0) = true := by simpa using hc0
    have hcc : (c == c) = true := by simp
    clear hc0 hR
    go_wp2
    refine wp_region_noPanic ?_
    refine wp_region_held_drew (S := fun W' => W'.cell? ⟨w2.heap.size, 0, none⟩ = some (.int .i64 c) ∧ Below w2.heap.size w2 W') (by kernel_rfl) (⟨by simp [go_sem], (bA2 _).drew⟩) (fun hH => ?_)
    refine hTake (i := 0) (v := ?_) rfl (by kernel_rfl) (by kernel_rfl) (by kernel_rfl) (by rfl) ?_ hH ?_
    rotate_left
    · intro W hW; (try dsimp only at hW); go_simp <;> with_reducible rfl
    simp only [Act.put, List.setIfInBounds_toArray, List.set_cons_zero, List.set_cons_succ]
    refine hTake (i := 1) (v := ?_) rfl (by kernel_rfl) (by kernel_rfl) (by kernel_rfl) (by rfl) ?_ hH ?_
    rotate_left
    · intro W hW; (try dsimp only at hW); go_simp <;> with_reducible rfl
    simp only [Act.put, List.setIfInBounds_toArray, List.set_cons_zero, List.set_cons_succ]
    refine hTake (i := 2) (v := ?_) rfl (by kernel_rfl) (by kernel_rfl) (by kernel_rfl) (by rfl) ?_ hH ?_
    rotate_left
    · intro W hW; (try dsimp only at hW); go_simp <;> with_reducible rfl
    simp only [Act.put, List.setIfInBounds_toArray, List.set_cons_zero, List.set_cons_succ]
    refine hTake (i := 3) (v := ?_) rfl (by kernel_rfl) (by kernel_rfl) (by kernel_rfl) (by rfl) ?_ hH ?_
    rotate_left
    · intro W hW; (try dsimp only at hW); go_simp <;> with_reducible rfl
    simp only [Act.put, List.setIfInBounds_toArray, List.set_cons_zero, List.set_cons_succ]
    refine hTake (i := 4) (v := ?_) rfl (by kernel_rfl) (by kernel_rfl) (by kernel_rfl) (by rfl) ?_ hH ?_
    rotate_left
    · intro W hW; (try dsimp only at hW); go_simp <;> with_reducible rfl
    simp only [Act.put, List.setIfInBounds_toArray, List.set_cons_zero, List.set_cons_succ]
    refine hTake (i := 7) (v := ?_) rfl (by kernel_rfl) (by kernel_rfl) (by kernel_rfl) (by rfl) ?_ hH ?_
    rotate_left
    · intro W hW; (try dsimp only at hW); go_simp <;> with_reducible rfl
    simp only [Act.put, List.setIfInBounds_toArray, List.set_cons_zero, List.set_cons_succ]
    refine hTake (i := 8) (v := ?_) rfl (by kernel_rfl) (by kernel_rfl) (by kernel_rfl) (by rfl) ?_ hH ?_
    rotate_left
    · intro W hW; (try dsimp only at hW); go_simp <;> with_reducible rfl
    simp only [Act.put, List.setIfInBounds_toArray, List.set_cons_zero, List.set_cons_succ]
    refine wpAnyH_ready (rs := [5]) (by kernel_rfl) (by simp) ?_
    refine AllReadyH.cons rfl (fun K hK => ?_) AllReadyH.nil
    go_simp
    refine (SS _ (o1.below hH.2)).mono ?_
    rintro e w3 ⟨a3, m3, c3, r3, p3, q3, rfl, b3⟩
    have hfd := fun W => fieldUr c a3 m3 c3 r3 p3 q3 W
    go_wp2_with fail
    refine hK.out _ _ ?_ (fun hH => ?_)
    · exact ⟨keep_cell b3 hH.1, hH.2.trans (b3.mono hH.2.size)⟩
    clear hK K
    refine hTake (i := 6) (v := ?_) rfl (by kernel_rfl) (by kernel_rfl) (by kernel_rfl) (by rfl) ?_ hH ?_
    rotate_left
    · intro W hW; (try dsimp only at hW); go_simp <;> with_reducible rfl
    simp only [Act.put, List.setIfInBounds_toArray, List.set_cons_zero, List.set_cons_succ]
    refine hTake (i := 9) (v := ?_) rfl (by kernel_rfl) (by kernel_rfl) (by kernel_rfl) (by rfl) ?_ hH ?_
    rotate_left
    · intro W hW; (try dsimp only at hW); go_simp <;> with_reducible rfl
    simp only [Act.put, List.setIfInBounds_toArray, List.set_cons_zero, List.set_cons_succ]
    refine hTake (i := 10) (v := ?_) rfl (by kernel_rfl) (by kernel_rfl) (by kernel_rfl) (by rfl) ?_ hH ?_
    rotate_left
    · intro W hW; (try dsimp only at hW); go_simp <;> with_reducible rfl
    simp only [Act.put, List.setIfInBounds_toArray, List.set_cons_zero, List.set_cons_succ]
    refine wpAnyH_done (by kernel_rfl) ?_ _
    refine NoPanic.normal ?_
    have b6 := hH.2
    clear hH
    go_wp2
    go_ret
    exact ⟨rfl, bE.trans (b6.mono bE.size)⟩
  subst hc0
  obtain ⟨bh, bv, ls'', h3, o3, hg, hg', hg'', hrs, hbf, hval, hund, hsame⟩ := Ch.sets_walk hR.out
  subst hrs
  rw [hbf] at BO
  simp only at BO
  have VI := fun (W : World) (hW : LvAt W a2 m2 ls') => implValueIn_any a2 m2 c2 key ls' W hW hsm
  rw [hval] at VI
  have UA := fun (W : World) (A : Option Addr) (hW : LvAt W a2 m2 ls') (hB : CellsAt W A (1 * 3) (bfcells [⟨key, bh, bv⟩])) => implUndoAll_any a2 m2 c2 tx A 1 1 ls' [⟨key, bh, bv⟩] W hW hsm hB (by omega)
  rw [hund] at UA
  simp only at UA
  have LF : ∀ W, OwnU W w1.heap.size (.slice a2 m2 c2) m2 ls' (.slice r2 p2 q2) p2 [⟨2, tx, key, bh, bv, has, v⟩] → _ := fun W hW => implLeaves_any a2 m2 c2 ls' W (OwnU.lv hW hsm) hsm
  rw [hg'] at LF
  have hp2 : p2 = 1 := o2.len.2
  subst hp2
  obtain ⟨mF, hmF⟩ : ∃ m, Hid (ls.flatten.length = m) := ⟨_, rfl⟩
  have RO := fun (W : World) (hW : OwnLv W w.heap.size (.slice a1 n1 c1) n1 ls) => implRowsOf_ok a1 n1 c1 ls W (OwnLv.at hW hsa) hs hg mF hmF
  have hmFb : mF ≤ 1048576 := by have := hmF.out; have := Ch.flat_240 hg; omega
  obtain ⟨mG, hmG⟩ : ∃ m, Hid (ls''.flatten.length = m) := ⟨_, rfl⟩
  have hsz := Ch.good_size hg''
  have RU := fun (W : World) (A : Option Addr) (m c : Nat) (hW : LvAt W A m ls'') => implRowsOf_ok A m c ls'' W hW hsz hg'' mG hmG
  have hmGb : mG ≤ 1048576 := by have := hmG.out; have := Ch.flat_240 hg''; omega
  have MF := fun (W : World) (A : Option Addr) (c : Nat) (hW : CellsAt W A (mF * 3) (rcells ls.flatten)) => implMapOf_any A mF c ls.flatten W hW hmFb
  rw [Ch.map_good hg] at MF
  have MG := fun (W : World) (A : Option Addr) (c : Nat) (hW : CellsAt W A (mG * 3) (rcells ls''.flatten)) => implMapOf_any A mG c ls''.flatten W hW hmGb
  rw [Ch.map_good hg'', ← hsame] at MG
  simp only at MF MG
  generalize Ch.noGhost ls.flatten = G at *
  generalize ls.flatten = FA at *
  generalize ls''.flatten = FB at *
  clear SS hR hval hund hg hg' hbf hsame hmF hmG
  have o2' := o2
  have hP8 := heap_alloc_new w2 (.cells #[.int .i64 0, .slice a2 m2 c2, .slice r2 1 q2] 29)
  have kP8 := bA2 (.cells #[.int .i64 0, .slice a2 m2 c2, .slice r2 1 q2] 29)
  obtain ⟨x0, x1, x2⟩ := undo_box hP8
  go_wp2_with fail
  refine (BO _ (o1.below kP8)).mono ?_
  rintro e w3 ⟨rfl, b3⟩
  have hP8 := block_below b3 hP8
  have kE := kP8.trans (b3.mono (by simp))
  have o1 := o1.below kE
  have o2 := o2.below kE
  have bE := bE.trans (kE.mono bE.size)
  clear x0 x1 x2 kP8 b3 kE bA2 o2'
  have kP9 : Below w3.heap.size w3 (w3.alloc (.cells #[.int .i64 key, .bool bh, .int .i64 bv] 32)) := (Below.refl _ _).alloc (Nat.le_refl _) _
  have hP9 := heap_alloc_new w3 (.cells #[.int .i64 key, .bool bh, .int .i64 bv] 32)
  have hP8 := block_below kP9 hP8
  have l8 := (Array.getElem?_eq_some_iff.1 hP8).1
  obtain ⟨x0, x1, x2⟩ := undo_box hP8
  go_wp2_with fail
  refine (VI _ ((o2.below kP9).lv hsm)).mono ?_
  rintro e w4 ⟨rfl, b4⟩
  have hP8 := block_below b4 hP8
  have hP9 := block_below b4 hP9
  have kE := kP9.trans (b4.mono (by simp))
  have o1 := o1.below kE
  have o2 := o2.below kE
  have bE := bE.trans (kE.mono bE.size)
  clear x0 x1 x2 kP9 b4 kE VI BO
  generalize hvc : (if has = true then ((0 : Int), v) else ((4 : Int), (0 : Int))) = vr at *
  obtain ⟨vc, vv⟩ := vr
  have HVC := hid hvc
  clear hvc
  simp only
  have kP10 : Below w4.heap.size w4 (w4.alloc (.cells #[.int .i64 vc, .int .i64 vv] 35)) := (Below.refl _ _).alloc (Nat.le_refl _) _
  have hP10 := heap_alloc_new w4 (.cells #[.int .i64 vc, .int .i64 vv] 35)
  have hP8 := block_below kP10 hP8
  have hP9 := block_below kP10 hP9
  have o1 := o1.below kP10
  have o2 := o2.below kP10
  have bE := bE.trans (kP10.mono bE.size)
  have zW4 : Hid ((w4.alloc (.cells #[.int .i64 vc, .int .i64 vv] 35)).heap.size = w4.heap.size + 1) := by show _ = _; simp
  obtain ⟨W4, hW4⟩ : ∃ x, Hid (w4.alloc (.cells #[.int .i64 vc, .int .i64 vv] 35) = x) := ⟨_, rfl⟩
  have l8 := (Array.getElem?_eq_some_iff.1 hP8).1
  have l9 := (Array.getElem?_eq_some_iff.1 hP9).1
  obtain ⟨x0, x1, x2⟩ := undo_box hP8
  obtain ⟨y0, y1, y2⟩ := undo_box hP9
  have hT := new_befA (w4.alloc (.cells #[.int .i64 vc, .int .i64 vv] 35)) key bh bv 32
  rw [zW4.out] at hT
  have kT : Below (w4.alloc (.cells #[.int .i64 vc, .int .i64 vv] 35)).heap.size (w4.alloc (.cells #[.int .i64 vc, .int .i64 vv] 35)) ((w4.alloc (.cells #[.int .i64 vc, .int .i64 vv] 35)).alloc (.cells #[.int .i64 key, .bool bh, .int .i64 bv] 32)) := (Below.refl _ _).alloc (Nat.le_refl _) _
  go_wp2_with fail
  refine (UA _ _ ((o2.below kT).lv hsm) hT).mono ?_
  rintro e w5 ⟨a5, m5, c5, r5, p5, q5, rfl, o5, b5⟩
  have hp5 : p5 = 1 := o5.len.2
  subst hp5
  have kE := kT.trans (b5.mono (by simp))
  have hP8 := block_below kE hP8
  have hP9 := block_below kE hP9
  have hP10 := block_below kE hP10
  have o1 := o1.below kE
  have o2 := o2.below kE
  have bE := bE.trans (kE.mono bE.size)
  clear x0 x1 x2 y0 y1 y2 kT b5 kE UA hT kP10
  have bA5 : Below w5.heap.size w5 (w5.alloc (.cells #[.int .i64 0, .slice a5 m5 c5, .slice r5 1 q5] 29)) := (Below.refl _ _).alloc (Nat.le_refl _) _
  have hP11 := heap_alloc_new w5 (.cells #[.int .i64 0, .slice a5 m5 c5, .slice r5 1 q5] 29)
  have hP8 := block_below bA5 hP8
  have hP9 := block_below bA5 hP9
  have hP10 := block_below bA5 hP10
  obtain ⟨x0, x1, x2⟩ := undo_box hP8
  obtain ⟨y0, y1, y2⟩ := undo_box hP9
  obtain ⟨v0, v1⟩ := two_of hP10
  obtain ⟨u0, u1, u2⟩ := undo_box hP11
  obtain ⟨rb, ro, hr2, k0, k3, k4⟩ := rec_one (o2.below bA5).rc
  obtain ⟨ub, uo, hr5, j0, j3, j4⟩ := rec_one (o5.below bA5).rc
  subst hr2
  subst hr5
  simp only at k0 k3 k4 j0
  clear j3 j4 hP8 hP9 hP10 x0 y0 zW4
  have lx := lt_of_cell x1
  have ly := lt_of_cell y1
  have lv := lt_of_cell v0
  have lu := lt_of_cell u0
  have hbb : (bh != bh) = false := by simp
  have hvb : (bv != bv) = false := by simp
  have lr := lt_of_cell k0
  have lj := lt_of_cell j0
  have oA := o1
  have oB := o2
  have oC := o5
  have bF0 := bE
  clear o1 o2 o5 bE
  cases has
  · have e1 := HVC.out
    simp only [Bool.false_eq_true, if_false, Prod.mk.injEq] at e1
    obtain ⟨rfl, rfl⟩ := e1
    go_wp2_with fail
    refine wp_region_noPanic ?_
    refine wp_region_held_drew (S := fun W' => W'.cell? ⟨w2.heap.size, 1, none⟩ = some (.slice a2 m2 c2) ∧ W'.cell? ⟨w2.heap.size, 2, none⟩ = some (.slice (some ⟨rb, ro, none⟩) 1 q2) ∧ W'.cell? ⟨w3.heap.size, 1, none⟩ = some (.bool bh) ∧ W'.cell? ⟨w3.heap.size, 2, none⟩ = some (.int .i64 bv) ∧ W'.cell? ⟨w4.heap.size, 0, none⟩ = some (.int .i64 4) ∧ W'.cell? ⟨w4.heap.size, 1, none⟩ = some (.int .i64 0) ∧ W'.cell? ⟨w5.heap.size, 0, none⟩ = some (.int .i64 0) ∧ W'.cell? ⟨w5.heap.size, 1, none⟩ = some (.slice a5 m5 c5) ∧ W'.cell? ⟨w5.heap.size, 2, none⟩ = some (.slice (some ⟨ub, uo, none⟩) 1 q5) ∧ W'.cell? ⟨rb, ro, none⟩ = some (.int .i64 2) ∧ W'.cell? ⟨rb, ro + 3, none⟩ = some (.bool bh) ∧ W'.cell? ⟨rb, ro + 4, none⟩ = some (.int .i64 bv) ∧ W'.cell? ⟨ub, uo, none⟩ = some (.int .i64 3) ∧ Below w5.heap.size w5 W') (by kernel_rfl) (⟨x1, x2, y1, y2, v0, v1, u0, u1, u2, k0, k3, k4, j0, bA5.drew⟩) (fun hH => ?_)
    refine hTake (i := 0) (v := ?_) rfl (by kernel_rfl) (by kernel_rfl) (by kernel_rfl) (by rfl) ?_ hH ?_
    rotate_left
    · intro W hW; (try dsimp only at hW); go_simp <;> with_reducible rfl
    simp only [Act.put, List.setIfInBounds_toArray, List.set_cons_zero, List.set_cons_succ]
    refine hTake (i := 1) (v := ?_) rfl (by kernel_rfl) (by kernel_rfl) (by kernel_rfl) (by rfl) ?_ hH ?_
    rotate_left
    · intro W hW; (try dsimp only at hW); go_simp <;> with_reducible rfl
    simp only [Act.put, List.setIfInBounds_toArray, List.set_cons_zero, List.set_cons_succ]
    refine wpAnyH_ready (rs := [2]) (by kernel_rfl) (by simp) ?_
    refine AllReadyH.cons rfl (fun K hK => ?_) AllReadyH.nil
    go_simp
    refine (LF _ (oB.below hH.2.2.2.2.2.2.2.2.2.2.2.2.2)).mono ?_
    rintro e w6 ⟨rfl, b6⟩
    refine hK.out _ _ ?_ (fun hH => ?_)
    · exact ⟨keep_cell b6 hH.1, keep_cell b6 hH.2.1, keep_cell b6 hH.2.2.1, keep_cell b6 hH.2.2.2.1, keep_cell b6 hH.2.2.2.2.1, keep_cell b6 hH.2.2.2.2.2.1, keep_cell b6 hH.2.2.2.2.2.2.1, keep_cell b6 hH.2.2.2.2.2.2.2.1, keep_cell b6 hH.2.2.2.2.2.2.2.2.1, keep_cell b6 hH.2.2.2.2.2.2.2.2.2.1, keep_cell b6 hH.2.2.2.2.2.2.2.2.2.2.1, keep_cell b6 hH.2.2.2.2.2.2.2.2.2.2.2.1, keep_cell b6 hH.2.2.2.2.2.2.2.2.2.2.2.2.1, hH.2.2.2.2.2.2.2.2.2.2.2.2.2.trans (b6.mono hH.2.2.2.2.2.2.2.2.2.2.2.2.2.size)⟩
    clear hK K
    refine hTake (i := 3) (v := ?_) rfl (by kernel_rfl) (by kernel_rfl) (by kernel_rfl) (by rfl) ?_ hH ?_
    rotate_left
    · intro W hW; (try dsimp only at hW); go_simp <;> with_reducible rfl
    simp only [Act.put, List.setIfInBounds_toArray, List.set_cons_zero, List.set_cons_succ]
    refine hTake (i := 4) (v := ?_) rfl (by kernel_rfl) (by kernel_rfl) (by kernel_rfl) (by rfl) ?_ hH ?_
    rotate_left
    · intro W hW; (try dsimp only at hW); go_simp <;> with_reducible rfl
    simp only [Act.put, List.setIfInBounds_toArray, List.set_cons_zero, List.set_cons_succ]
    refine hTake (i := 5) (v := ?_) rfl (by kernel_rfl) (by kernel_rfl) (by kernel_rfl) (by rfl) ?_ hH ?_
    rotate_left
    · intro W hW; (try dsimp only at hW); go_simp <;> with_reducible rfl
    simp only [Act.put, List.setIfInBounds_toArray, List.set_cons_zero, List.set_cons_succ]
    refine hTake (i := 6) (v := ?_) rfl (by kernel_rfl) (by kernel_rfl) (by kernel_rfl) (by rfl) ?_ hH ?_
    rotate_left
    · intro W hW; (try dsimp only at hW); go_simp <;> with_reducible rfl
    simp only [Act.put, List.setIfInBounds_toArray, List.set_cons_zero, List.set_cons_succ]
    refine hTake (i := 7) (v := ?_) rfl (by kernel_rfl) (by kernel_rfl) (by kernel_rfl) (by rfl) ?_ hH ?_
    rotate_left
    · intro W hW; (try dsimp only at hW); go_simp <;> with_reducible rfl
    simp only [Act.put, List.setIfInBounds_toArray, List.set_cons_zero, List.set_cons_succ]
    refine hTake (i := 8) (v := ?_) rfl (by kernel_rfl) (by kernel_rfl) (by kernel_rfl) (by rfl) ?_ hH ?_
    rotate_left
    · intro W hW; (try dsimp only at hW); go_simp <;> with_reducible rfl
    simp only [Act.put, List.setIfInBounds_toArray, List.set_cons_zero, List.set_cons_succ]
    refine hTake (i := 9) (v := ?_) rfl (by kernel_rfl) (by kernel_rfl) (by kernel_rfl) (by rfl) ?_ hH ?_
    rotate_left
    · intro W hW; (try dsimp only at hW); go_simp <;> with_reducible rfl
    simp only [Act.put, List.setIfInBounds_toArray, List.set_cons_zero, List.set_cons_succ]
    refine hTake (i := 10) (v := ?_) rfl (by kernel_rfl) (by kernel_rfl) (by kernel_rfl) (by rfl) ?_ hH ?_
    rotate_left
    · intro W hW; (try dsimp only at hW); go_simp <;> with_reducible rfl
    simp only [Act.put, List.setIfInBounds_toArray, List.set_cons_zero, List.set_cons_succ]
    refine hTake (i := 11) (v := ?_) rfl (by kernel_rfl) (by kernel_rfl) (by kernel_rfl) (by rfl) ?_ hH ?_
    rotate_left
    · intro W hW; (try dsimp only at hW); go_simp <;> with_reducible rfl
    simp only [Act.put, List.setIfInBounds_toArray, List.set_cons_zero, List.set_cons_succ]
    refine hTake (i := 12) (v := ?_) rfl (by kernel_rfl) (by kernel_rfl) (by kernel_rfl) (by rfl) ?_ hH ?_
    rotate_left
    · intro W hW; (try dsimp only at hW); go_simp <;> with_reducible rfl
    simp only [Act.put, List.setIfInBounds_toArray, List.set_cons_zero, List.set_cons_succ]
    refine hTake (i := 13) (v := ?_) rfl (by kernel_rfl) (by kernel_rfl) (by kernel_rfl) (by rfl) ?_ hH ?_
    rotate_left
    · intro W hW; (try dsimp only at hW); go_simp <;> with_reducible rfl
    simp only [Act.put, List.setIfInBounds_toArray, List.set_cons_zero, List.set_cons_succ]
    refine hSkip (i := 14) rfl (by kernel_rfl) (by kernel_rfl) (by kernel_rfl) (by rfl) hH ?_
    simp only [Act.put, List.setIfInBounds_toArray, List.set_cons_zero, List.set_cons_succ]
    refine hSkip (i := 15) rfl (by kernel_rfl) (by kernel_rfl) (by kernel_rfl) (by rfl) hH ?_
    simp only [Act.put, List.setIfInBounds_toArray, List.set_cons_zero, List.set_cons_succ]
    refine hSkip (i := 16) rfl (by kernel_rfl) (by kernel_rfl) (by kernel_rfl) (by rfl) hH ?_
    simp only [Act.put, List.setIfInBounds_toArray, List.set_cons_zero, List.set_cons_succ]
    refine hSkip (i := 17) rfl (by kernel_rfl) (by kernel_rfl) (by kernel_rfl) (by rfl) hH ?_
    simp only [Act.put, List.setIfInBounds_toArray, List.set_cons_zero, List.set_cons_succ]
    refine hTake (i := 18) (v := ?_) rfl (by kernel_rfl) (by kernel_rfl) (by kernel_rfl) (by rfl) ?_ hH ?_
    rotate_left
    · intro W hW; (try dsimp only at hW); go_simp <;> with_reducible rfl
    simp only [Act.put, List.setIfInBounds_toArray, List.set_cons_zero, List.set_cons_succ]
    refine hTake (i := 19) (v := ?_) rfl (by kernel_rfl) (by kernel_rfl) (by kernel_rfl) (by rfl) ?_ hH ?_
    rotate_left
    · intro W hW; (try dsimp only at hW); go_simp <;> with_reducible rfl
    simp only [Act.put, List.setIfInBounds_toArray, List.set_cons_zero, List.set_cons_succ]
    refine hTake (i := 20) (v := ?_) rfl (by kernel_rfl) (by kernel_rfl) (by kernel_rfl) (by rfl) ?_ hH ?_
    rotate_left
    · intro W hW; (try dsimp only at hW); go_simp <;> with_reducible rfl
    simp only [Act.put, List.setIfInBounds_toArray, List.set_cons_zero, List.set_cons_succ]
    refine hTake (i := 21) (v := ?_) rfl (by kernel_rfl) (by kernel_rfl) (by kernel_rfl) (by rfl) ?_ hH ?_
    rotate_left
    · intro W hW; (try dsimp only at hW); go_simp <;> with_reducible rfl
    simp only [Act.put, List.setIfInBounds_toArray, List.set_cons_zero, List.set_cons_succ]
    refine hTake (i := 22) (v := ?_) rfl (by kernel_rfl) (by kernel_rfl) (by kernel_rfl) (by rfl) ?_ hH ?_
    rotate_left
    · intro W hW; (try dsimp only at hW); go_simp <;> with_reducible rfl
    simp only [Act.put, List.setIfInBounds_toArray, List.set_cons_zero, List.set_cons_succ]
    refine hTake (i := 23) (v := ?_) rfl (by kernel_rfl) (by kernel_rfl) (by kernel_rfl) (by rfl) ?_ hH ?_
    rotate_left
    · intro W hW; (try dsimp only at hW); go_simp <;> with_reducible rfl
    simp only [Act.put, List.setIfInBounds_toArray, List.set_cons_zero, List.set_cons_succ]
    refine hTake (i := 24) (v := ?_) rfl (by kernel_rfl) (by kernel_rfl) (by kernel_rfl) (by rfl) ?_ hH ?_
    rotate_left
    · intro W hW; (try dsimp only at hW); go_simp <;> with_reducible rfl
    simp only [Act.put, List.setIfInBounds_toArray, List.set_cons_zero, List.set_cons_succ]
    refine hTake (i := 25) (v := ?_) rfl (by kernel_rfl) (by kernel_rfl) (by kernel_rfl) (by rfl) ?_ hH ?_
    rotate_left
    · intro W hW; (try dsimp only at hW); go_simp <;> with_reducible rfl
    simp only [Act.put, List.setIfInBounds_toArray, List.set_cons_zero, List.set_cons_succ]
    refine hTake (i := 26) (v := ?_) rfl (by kernel_rfl) (by kernel_rfl) (by kernel_rfl) (by rfl) ?_ hH ?_
    rotate_left
    · intro W hW; (try dsimp only at hW); go_simp <;> with_reducible rfl
    simp only [Act.put, List.setIfInBounds_toArray, List.set_cons_zero, List.set_cons_succ]
    refine hTake (i := 27) (v := ?_) rfl (by kernel_rfl) (by kernel_rfl) (by kernel_rfl) (by rfl) ?_ hH ?_
    rotate_left
    · intro W hW; (try dsimp only at hW); go_simp <;> with_reducible rfl
    simp only [Act.put, List.setIfInBounds_toArray, List.set_cons_zero, List.set_cons_succ]
    refine hTake (i := 28) (v := ?_) rfl (by kernel_rfl) (by kernel_rfl) (by kernel_rfl) (by rfl) ?_ hH ?_
    rotate_left
    · intro W hW; (try dsimp only at hW); go_simp <;> with_reducible rfl
    simp only [Act.put, List.setIfInBounds_toArray, List.set_cons_zero, List.set_cons_succ]
    refine hTake (i := 29) (v := ?_) rfl (by kernel_rfl) (by kernel_rfl) (by kernel_rfl) (by rfl) ?_ hH ?_
    rotate_left
    · intro W hW; (try dsimp only at hW); go_simp <;> with_reducible rfl
    simp only [Act.put, List.setIfInBounds_toArray, List.set_cons_zero, List.set_cons_succ]
    refine hTake (i := 30) (v := ?_) rfl (by kernel_rfl) (by kernel_rfl) (by kernel_rfl) (by rfl) ?_ hH ?_
    rotate_left
    · intro W hW; (try dsimp only at hW); go_simp <;> with_reducible rfl
    simp only [Act.put, List.setIfInBounds_toArray, List.set_cons_zero, List.set_cons_succ]
    refine hTake (i := 31) (v := ?_) rfl (by kernel_rfl) (by kernel_rfl) (by kernel_rfl) (by rfl) ?_ hH ?_
    rotate_left
    · intro W hW; (try dsimp only at hW); go_simp <;> with_reducible rfl
    simp only [Act.put, List.setIfInBounds_toArray, List.set_cons_zero, List.set_cons_succ]
    refine hTake (i := 32) (v := ?_) rfl (by kernel_rfl) (by kernel_rfl) (by kernel_rfl) (by rfl) ?_ hH ?_
    rotate_left
    · intro W hW; (try dsimp only at hW); go_simp <;> with_reducible rfl
    simp only [Act.put, List.setIfInBounds_toArray, List.set_cons_zero, List.set_cons_succ]
    refine hTake (i := 33) (v := ?_) rfl (by kernel_rfl) (by kernel_rfl) (by kernel_rfl) (by rfl) ?_ hH ?_
    rotate_left
    · intro W hW; (try dsimp only at hW); go_simp <;> with_reducible rfl
    simp only [Act.put, List.setIfInBounds_toArray, List.set_cons_zero, List.set_cons_succ]
    refine hTake (i := 34) (v := ?_) rfl (by kernel_rfl) (by kernel_rfl) (by kernel_rfl) (by rfl) ?_ hH ?_
    rotate_left
    · intro W hW; (try dsimp only at hW); go_simp <;> with_reducible rfl
    simp only [Act.put, List.setIfInBounds_toArray, List.set_cons_zero, List.set_cons_succ]
    refine hTake (i := 35) (v := ?_) rfl (by kernel_rfl) (by kernel_rfl) (by kernel_rfl) (by rfl) ?_ hH ?_
    rotate_left
    · intro W hW; (try dsimp only at hW); go_simp <;> with_reducible rfl
    simp only [Act.put, List.setIfInBounds_toArray, List.set_cons_zero, List.set_cons_succ]
    refine hTake (i := 36) (v := ?_) rfl (by kernel_rfl) (by kernel_rfl) (by kernel_rfl) (by rfl) ?_ hH ?_
    rotate_left
    · intro W hW; (try dsimp only at hW); go_simp <;> with_reducible rfl
    simp only [Act.put, List.setIfInBounds_toArray, List.set_cons_zero, List.set_cons_succ]
    refine hTake (i := 37) (v := ?_) rfl (by kernel_rfl) (by kernel_rfl) (by kernel_rfl) (by rfl) ?_ hH ?_
    rotate_left
    · intro W hW; (try dsimp only at hW); go_simp <;> with_reducible rfl
    simp only [Act.put, List.setIfInBounds_toArray, List.set_cons_zero, List.set_cons_succ]
    refine hTake (i := 38) (v := ?_) rfl (by kernel_rfl) (by kernel_rfl) (by kernel_rfl) (by rfl) ?_ hH ?_
    rotate_left
    · intro W hW; (try dsimp only at hW); go_simp <;> with_reducible rfl
    simp only [Act.put, List.setIfInBounds_toArray, List.set_cons_zero, List.set_cons_succ]
    refine hTake (i := 39) (v := ?_) rfl (by kernel_rfl) (by kernel_rfl) (by kernel_rfl) (by rfl) ?_ hH ?_
    rotate_left
    · intro W hW; (try dsimp only at hW); go_simp <;> with_reducible rfl
    simp only [Act.put, List.setIfInBounds_toArray, List.set_cons_zero, List.set_cons_succ]
    refine hTake (i := 40) (v := ?_) rfl (by kernel_rfl) (by kernel_rfl) (by kernel_rfl) (by rfl) ?_ hH ?_
    rotate_left
    · intro W hW; (try dsimp only at hW); go_simp <;> with_reducible rfl
    simp only [Act.put, List.setIfInBounds_toArray, List.set_cons_zero, List.set_cons_succ]
    refine hTake (i := 41) (v := ?_) rfl (by kernel_rfl) (by kernel_rfl) (by kernel_rfl) (by rfl) ?_ hH ?_
    rotate_left
    · intro W hW; (try dsimp only at hW); go_simp <;> with_reducible rfl
    simp only [Act.put, List.setIfInBounds_toArray, List.set_cons_zero, List.set_cons_succ]
    refine hTake (i := 42) (v := ?_) rfl (by kernel_rfl) (by kernel_rfl) (by kernel_rfl) (by rfl) ?_ hH ?_
    rotate_left
    · intro W hW; (try dsimp only at hW); go_simp <;> with_reducible rfl
    simp only [Act.put, List.setIfInBounds_toArray, List.set_cons_zero, List.set_cons_succ]
    refine hTake (i := 43) (v := ?_) rfl (by kernel_rfl) (by kernel_rfl) (by kernel_rfl) (by rfl) ?_ hH ?_
    rotate_left
    · intro W hW; (try dsimp only at hW); go_simp <;> with_reducible rfl
    simp only [Act.put, List.setIfInBounds_toArray, List.set_cons_zero, List.set_cons_succ]
    refine hTake (i := 44) (v := ?_) rfl (by kernel_rfl) (by kernel_rfl) (by kernel_rfl) (by rfl) ?_ hH ?_
    rotate_left
    · intro W hW; (try dsimp only at hW); go_simp <;> with_reducible rfl
    simp only [Act.put, List.setIfInBounds_toArray, List.set_cons_zero, List.set_cons_succ]
    refine hTake (i := 45) (v := ?_) rfl (by kernel_rfl) (by kernel_rfl) (by kernel_rfl) (by rfl) ?_ hH ?_
    rotate_left
    · intro W hW; (try dsimp only at hW); go_simp <;> with_reducible rfl
    simp only [Act.put, List.setIfInBounds_toArray, List.set_cons_zero, List.set_cons_succ]
    refine hTake (i := 46) (v := ?_) rfl (by kernel_rfl) (by kernel_rfl) (by kernel_rfl) (by rfl) ?_ hH ?_
    rotate_left
    · intro W hW; (try dsimp only at hW); go_simp <;> with_reducible rfl
    simp only [Act.put, List.setIfInBounds_toArray, List.set_cons_zero, List.set_cons_succ]
    refine hTake (i := 47) (v := ?_) rfl (by kernel_rfl) (by kernel_rfl) (by kernel_rfl) (by rfl) ?_ hH ?_
    rotate_left
    · intro W hW; (try dsimp only at hW); go_simp <;> with_reducible rfl
    simp only [Act.put, List.setIfInBounds_toArray, List.set_cons_zero, List.set_cons_succ]
    refine hTake (i := 48) (v := ?_) rfl (by kernel_rfl) (by kernel_rfl) (by kernel_rfl) (by rfl) ?_ hH ?_
    rotate_left
    · intro W hW; (try dsimp only at hW); go_simp <;> with_reducible rfl
    simp only [Act.put, List.setIfInBounds_toArray, List.set_cons_zero, List.set_cons_succ]
    refine hTake (i := 49) (v := ?_) rfl (by kernel_rfl) (by kernel_rfl) (by kernel_rfl) (by rfl) ?_ hH ?_
    rotate_left
    · intro W hW; (try dsimp only at hW); go_simp <;> with_reducible rfl
    simp only [Act.put, List.setIfInBounds_toArray, List.set_cons_zero, List.set_cons_succ]
    refine hTake (i := 50) (v := ?_) rfl (by kernel_rfl) (by kernel_rfl) (by kernel_rfl) (by rfl) ?_ hH ?_
    rotate_left
    · intro W hW; (try dsimp only at hW); go_simp <;> with_reducible rfl
    simp only [Act.put, List.setIfInBounds_toArray, List.set_cons_zero, List.set_cons_succ]
    refine hTake (i := 51) (v := ?_) rfl (by kernel_rfl) (by kernel_rfl) (by kernel_rfl) (by rfl) ?_ hH ?_
    rotate_left
    · intro W hW; (try dsimp only at hW); go_simp <;> with_reducible rfl
    simp only [Act.put, List.setIfInBounds_toArray, List.set_cons_zero, List.set_cons_succ]
    refine hTake (i := 52) (v := ?_) rfl (by kernel_rfl) (by kernel_rfl) (by kernel_rfl) (by rfl) ?_ hH ?_
    rotate_left
    · intro W hW; (try dsimp only at hW); go_simp <;> with_reducible rfl
    simp only [Act.put, List.setIfInBounds_toArray, List.set_cons_zero, List.set_cons_succ]
    refine hTake (i := 53) (v := ?_) rfl (by kernel_rfl) (by kernel_rfl) (by kernel_rfl) (by rfl) ?_ hH ?_
    rotate_left
    · intro W hW; (try dsimp only at hW); go_simp <;> with_reducible rfl
    simp only [Act.put, List.setIfInBounds_toArray, List.set_cons_zero, List.set_cons_succ]
    refine hTake (i := 54) (v := ?_) rfl (by kernel_rfl) (by kernel_rfl) (by kernel_rfl) (by rfl) ?_ hH ?_
    rotate_left
    · intro W hW; (try dsimp only at hW); go_simp <;> with_reducible rfl
    simp only [Act.put, List.setIfInBounds_toArray, List.set_cons_zero, List.set_cons_succ]
    refine hTake (i := 55) (v := ?_) rfl (by kernel_rfl) (by kernel_rfl) (by kernel_rfl) (by rfl) ?_ hH ?_
    rotate_left
    · intro W hW; (try dsimp only at hW); go_simp <;> with_reducible rfl
    simp only [Act.put, List.setIfInBounds_toArray, List.set_cons_zero, List.set_cons_succ]
    refine hTake (i := 56) (v := ?_) rfl (by kernel_rfl) (by kernel_rfl) (by kernel_rfl) (by rfl) ?_ hH ?_
    rotate_left
    · intro W hW; (try dsimp only at hW); go_simp <;> with_reducible rfl
    simp only [Act.put, List.setIfInBounds_toArray, List.set_cons_zero, List.set_cons_succ]
    refine hTake (i := 57) (v := ?_) rfl (by kernel_rfl) (by kernel_rfl) (by kernel_rfl) (by rfl) ?_ hH ?_
    rotate_left
    · intro W hW; (try dsimp only at hW); go_simp <;> with_reducible rfl
    simp only [Act.put, List.setIfInBounds_toArray, List.set_cons_zero, List.set_cons_succ]
    refine hTake (i := 58) (v := ?_) rfl (by kernel_rfl) (by kernel_rfl) (by kernel_rfl) (by rfl) ?_ hH ?_
    rotate_left
    · intro W hW; (try dsimp only at hW); go_simp <;> with_reducible rfl
    simp only [Act.put, List.setIfInBounds_toArray, List.set_cons_zero, List.set_cons_succ]
    refine hTake (i := 59) (v := ?_) rfl (by kernel_rfl) (by kernel_rfl) (by kernel_rfl) (by rfl) ?_ hH ?_
    rotate_left
    · intro W hW; (try dsimp only at hW); go_simp <;> with_reducible rfl
    simp only [Act.put, List.setIfInBounds_toArray, List.set_cons_zero, List.set_cons_succ]
    refine hTake (i := 60) (v := ?_) rfl (by kernel_rfl) (by kernel_rfl) (by kernel_rfl) (by rfl) ?_ hH ?_
    rotate_left
    · intro W hW; (try dsimp only at hW); go_simp <;> with_reducible rfl
    simp only [Act.put, List.setIfInBounds_toArray, List.set_cons_zero, List.set_cons_succ]
    refine hTake (i := 61) (v := ?_) rfl (by kernel_rfl) (by kernel_rfl) (by kernel_rfl) (by rfl) ?_ hH ?_
    rotate_left
    · intro W hW; (try dsimp only at hW); go_simp <;> with_reducible rfl
    simp only [Act.put, List.setIfInBounds_toArray, List.set_cons_zero, List.set_cons_succ]
    refine hTake (i := 62) (v := ?_) rfl (by kernel_rfl) (by kernel_rfl) (by kernel_rfl) (by rfl) ?_ hH ?_
    rotate_left
    · intro W hW; (try dsimp only at hW); go_simp <;> with_reducible rfl
    simp only [Act.put, List.setIfInBounds_toArray, List.set_cons_zero, List.set_cons_succ]
    refine hTake (i := 63) (v := ?_) rfl (by kernel_rfl) (by kernel_rfl) (by kernel_rfl) (by rfl) ?_ hH ?_
    rotate_left
    · intro W hW; (try dsimp only at hW); go_simp <;> with_reducible rfl
    simp only [Act.put, List.setIfInBounds_toArray, List.set_cons_zero, List.set_cons_succ]
    refine hTake (i := 64) (v := ?_) rfl (by kernel_rfl) (by kernel_rfl) (by kernel_rfl) (by rfl) ?_ hH ?_
    rotate_left
    · intro W hW; (try dsimp only at hW); go_simp <;> with_reducible rfl
    simp only [Act.put, List.setIfInBounds_toArray, List.set_cons_zero, List.set_cons_succ]
    refine hTake (i := 65) (v := ?_) rfl (by kernel_rfl) (by kernel_rfl) (by kernel_rfl) (by rfl) ?_ hH ?_
    rotate_left
    · intro W hW; (try dsimp only at hW); go_simp <;> with_reducible rfl
    simp only [Act.put, List.setIfInBounds_toArray, List.set_cons_zero, List.set_cons_succ]
    refine hTake (i := 66) (v := ?_) rfl (by kernel_rfl) (by kernel_rfl) (by kernel_rfl) (by rfl) ?_ hH ?_
    rotate_left
    · intro W hW; (try dsimp only at hW); go_simp <;> with_reducible rfl
    simp only [Act.put, List.setIfInBounds_toArray, List.set_cons_zero, List.set_cons_succ]
    refine hTake (i := 67) (v := ?_) rfl (by kernel_rfl) (by kernel_rfl) (by kernel_rfl) (by rfl) ?_ hH ?_
    rotate_left
    · intro W hW; (try dsimp only at hW); go_simp <;> with_reducible rfl
    simp only [Act.put, List.setIfInBounds_toArray, List.set_cons_zero, List.set_cons_succ]
    refine hTake (i := 68) (v := ?_) rfl (by kernel_rfl) (by kernel_rfl) (by kernel_rfl) (by rfl) ?_ hH ?_
    rotate_left
    · intro W hW; (try dsimp only at hW); go_simp <;> with_reducible rfl
    simp only [Act.put, List.setIfInBounds_toArray, List.set_cons_zero, List.set_cons_succ]
    refine hTake (i := 69) (v := ?_) rfl (by kernel_rfl) (by kernel_rfl) (by kernel_rfl) (by rfl) ?_ hH ?_
    rotate_left
    · intro W hW; (try dsimp only at hW); go_simp <;> with_reducible rfl
    simp only [Act.put, List.setIfInBounds_toArray, List.set_cons_zero, List.set_cons_succ]
    refine hTake (i := 70) (v := ?_) rfl (by kernel_rfl) (by kernel_rfl) (by kernel_rfl) (by rfl) ?_ hH ?_
    rotate_left
    · intro W hW; (try dsimp only at hW); go_simp <;> with_reducible rfl
    simp only [Act.put, List.setIfInBounds_toArray, List.set_cons_zero, List.set_cons_succ]
    refine hTake (i := 71) (v := ?_) rfl (by kernel_rfl) (by kernel_rfl) (by kernel_rfl) (by rfl) ?_ hH ?_
    rotate_left
    · intro W hW; (try dsimp only at hW); go_simp <;> with_reducible rfl
    simp only [Act.put, List.setIfInBounds_toArray, List.set_cons_zero, List.set_cons_succ]
    refine hTake (i := 72) (v := ?_) rfl (by kernel_rfl) (by kernel_rfl) (by kernel_rfl) (by rfl) ?_ hH ?_
    rotate_left
    · intro W hW; (try dsimp only at hW); go_simp <;> with_reducible rfl
    simp only [Act.put, List.setIfInBounds_toArray, List.set_cons_zero, List.set_cons_succ]
    refine wpAnyH_done (by kernel_rfl) ?_ _
    refine NoPanic.normal ?_
    have b6 := hH.2.2.2.2.2.2.2.2.2.2.2.2.2
    have u1' := hH.2.2.2.2.2.2.2.1
    clear hH x1 x2 y1 y2 v0 v1 u0 u1 u2 k0 k3 k4 j0 lx ly lv lu lr lj
    have o1 := oA.below b6
    have o5 := oC.below b6
    have bE := bF0.trans (b6.mono bF0.size)
    have w1c := u1'
    have lw := lt_of_cell w1c
    go_wp2_with fail
    refine (RO _ o1).mono ?_
    rintro e w7 ⟨a7, c7, rfl, o7, b7⟩
    have hfd7 := fun W => fieldRs1 0 a7 mF c7 W
    go_wp2_with fail
    refine (MF _ _ _ (owns_cells o7)).mono ?_
    rintro e w8 ⟨a8, m8, c8, rfl, hm8, o8, b8⟩
    have b78 := b7.trans (b8.mono b7.size)
    have o5 := o5.below b78
    have bE := bE.trans (b78.mono bE.size)
    have w1c := keep_cell b78 w1c
    have kA8 : Below w8.heap.size w8 (w8.alloc (.cells #[.int .i64 0, .slice a8 m8 c8] 44)) := (Below.refl _ _).alloc (Nat.le_refl _) _
    have hP12 := heap_alloc_new w8 (.cells #[.int .i64 0, .slice a8 m8 c8] 44)
    have w1d := keep_cell kA8 w1c
    have lw := lt_of_cell w1d
    clear o7 b7 b8 b78 hfd7
    go_wp2_with fail
    refine (RU _ _ _ _ ((o5.below kA8).lv hsz)).mono ?_
    rintro e w9 ⟨a9, c9, rfl, o9, b9⟩
    have hfd9 := fun W => fieldRs1 0 a9 mG c9 W
    go_wp2_with fail
    refine (MG _ _ _ (owns_cells o9)).mono ?_
    rintro e w10 ⟨a10, m10, c10, rfl, hm10, o10, b10⟩
    have b910 := b9.trans (b10.mono b9.size)
    have hP12 := block_below b910 hP12
    have k910 := kA8.trans (b910.mono (by simp))
    have o8 := owns_below o8 k910
    have bE := bE.trans (k910.mono bE.size)
    have kA10 : Below w10.heap.size w10 (w10.alloc (.cells #[.int .i64 0, .slice a10 m10 c10] 44)) := (Below.refl _ _).alloc (Nat.le_refl _) _
    have hP13 := heap_alloc_new w10 (.cells #[.int .i64 0, .slice a10 m10 c10] 44)
    have hP12 := block_below kA10 hP12
    obtain ⟨z0, z1⟩ := two_of hP12
    obtain ⟨t0, t1⟩ := two_of hP13
    have lz := lt_of_cell z0
    have LW := fun W h1 h2 => lwRows_any a8 a10 m8 c8 m10 c10 G G W h1 h2 hm8 hm10
    rw [Ch.sameL_self] at LW
    clear o9 b9 b10 b910 hfd9 k910
    go_wp2_with fail
    refine (LW _ (owns_cells (owns_below o8 kA10)) (owns_cells (owns_below o10 kA10))).mono ?_
    rintro e w11 ⟨rfl, b11⟩
    have bF := bE.trans ((kA10.trans (b11.mono (by simp))).mono bE.size)
    go_wp2
    go_ret
    exact ⟨rfl, bF⟩
  · have e1 := HVC.out
    simp only [if_true, Prod.mk.injEq] at e1
    obtain ⟨rfl, rfl⟩ := e1
    have hvv : (v != v) = false := by simp
    go_wp2_with fail
    refine wp_region_noPanic ?_
    refine wp_region_held_drew (S := fun W' => W'.cell? ⟨w2.heap.size, 1, none⟩ = some (.slice a2 m2 c2) ∧ W'.cell? ⟨w2.heap.size, 2, none⟩ = some (.slice (some ⟨rb, ro, none⟩) 1 q2) ∧ W'.cell? ⟨w3.heap.size, 1, none⟩ = some (.bool bh) ∧ W'.cell? ⟨w3.heap.size, 2, none⟩ = some (.int .i64 bv) ∧ W'.cell? ⟨w4.heap.size, 0, none⟩ = some (.int .i64 0) ∧ W'.cell? ⟨w4.heap.size, 1, none⟩ = some (.int .i64 v) ∧ W'.cell? ⟨w5.heap.size, 0, none⟩ = some (.int .i64 0) ∧ W'.cell? ⟨w5.heap.size, 1, none⟩ = some (.slice a5 m5 c5) ∧ W'.cell? ⟨w5.heap.size, 2, none⟩ = some (.slice (some ⟨ub, uo, none⟩) 1 q5) ∧ W'.cell? ⟨rb, ro, none⟩ = some (.int .i64 2) ∧ W'.cell? ⟨rb, ro + 3, none⟩ = some (.bool bh) ∧ W'.cell? ⟨rb, ro + 4, none⟩ = some (.int .i64 bv) ∧ W'.cell? ⟨ub, uo, none⟩ = some (.int .i64 3) ∧ Below w5.heap.size w5 W') (by kernel_rfl) (⟨x1, x2, y1, y2, v0, v1, u0, u1, u2, k0, k3, k4, j0, bA5.drew⟩) (fun hH => ?_)
    refine hTake (i := 0) (v := ?_) rfl (by kernel_rfl) (by kernel_rfl) (by kernel_rfl) (by rfl) ?_ hH ?_
    rotate_left
    · intro W hW; (try dsimp only at hW); go_simp <;> with_reducible rfl
    simp only [Act.put, List.setIfInBounds_toArray, List.set_cons_zero, List.set_cons_succ]
    refine hTake (i := 1) (v := ?_) rfl (by kernel_rfl) (by kernel_rfl) (by kernel_rfl) (by rfl) ?_ hH ?_
    rotate_left
    · intro W hW; (try dsimp only at hW); go_simp <;> with_reducible rfl
    simp only [Act.put, List.setIfInBounds_toArray, List.set_cons_zero, List.set_cons_succ]
    refine wpAnyH_ready (rs := [2]) (by kernel_rfl) (by simp) ?_
    refine AllReadyH.cons rfl (fun K hK => ?_) AllReadyH.nil
    go_simp
    refine (LF _ (oB.below hH.2.2.2.2.2.2.2.2.2.2.2.2.2)).mono ?_
    rintro e w6 ⟨rfl, b6⟩
    refine hK.out _ _ ?_ (fun hH => ?_)
    · exact ⟨keep_cell b6 hH.1, keep_cell b6 hH.2.1, keep_cell b6 hH.2.2.1, keep_cell b6 hH.2.2.2.1, keep_cell b6 hH.2.2.2.2.1, keep_cell b6 hH.2.2.2.2.2.1, keep_cell b6 hH.2.2.2.2.2.2.1, keep_cell b6 hH.2.2.2.2.2.2.2.1, keep_cell b6 hH.2.2.2.2.2.2.2.2.1, keep_cell b6 hH.2.2.2.2.2.2.2.2.2.1, keep_cell b6 hH.2.2.2.2.2.2.2.2.2.2.1, keep_cell b6 hH.2.2.2.2.2.2.2.2.2.2.2.1, keep_cell b6 hH.2.2.2.2.2.2.2.2.2.2.2.2.1, hH.2.2.2.2.2.2.2.2.2.2.2.2.2.trans (b6.mono hH.2.2.2.2.2.2.2.2.2.2.2.2.2.size)⟩
    clear hK K
    refine hTake (i := 3) (v := ?_) rfl (by kernel_rfl) (by kernel_rfl) (by kernel_rfl) (by rfl) ?_ hH ?_
    rotate_left
    · intro W hW; (try dsimp only at hW); go_simp <;> with_reducible rfl
    simp only [Act.put, List.setIfInBounds_toArray, List.set_cons_zero, List.set_cons_succ]
    refine hTake (i := 4) (v := ?_) rfl (by kernel_rfl) (by kernel_rfl) (by kernel_rfl) (by rfl) ?_ hH ?_
    rotate_left
    · intro W hW; (try dsimp only at hW); go_simp <;> with_reducible rfl
    simp only [Act.put, List.setIfInBounds_toArray, List.set_cons_zero, List.set_cons_succ]
    refine hTake (i := 5) (v := ?_) rfl (by kernel_rfl) (by kernel_rfl) (by kernel_rfl) (by rfl) ?_ hH ?_
    rotate_left
    · intro W hW; (try dsimp only at hW); go_simp <;> with_reducible rfl
    simp only [Act.put, List.setIfInBounds_toArray, List.set_cons_zero, List.set_cons_succ]
    refine hTake (i := 6) (v := ?_) rfl (by kernel_rfl) (by kernel_rfl) (by kernel_rfl) (by rfl) ?_ hH ?_
    rotate_left
    · intro W hW; (try dsimp only at hW); go_simp <;> with_reducible rfl
    simp only [Act.put, List.setIfInBounds_toArray, List.set_cons_zero, List.set_cons_succ]
    refine hTake (i := 7) (v := ?_) rfl (by kernel_rfl) (by kernel_rfl) (by kernel_rfl) (by rfl) ?_ hH ?_
    rotate_left
    · intro W hW; (try dsimp only at hW); go_simp <;> with_reducible rfl
    simp only [Act.put, List.setIfInBounds_toArray, List.set_cons_zero, List.set_cons_succ]
    refine hTake (i := 8) (v := ?_) rfl (by kernel_rfl) (by kernel_rfl) (by kernel_rfl) (by rfl) ?_ hH ?_
    rotate_left
    · intro W hW; (try dsimp only at hW); go_simp <;> with_reducible rfl
    simp only [Act.put, List.setIfInBounds_toArray, List.set_cons_zero, List.set_cons_succ]
    refine hTake (i := 9) (v := ?_) rfl (by kernel_rfl) (by kernel_rfl) (by kernel_rfl) (by rfl) ?_ hH ?_
    rotate_left
    · intro W hW; (try dsimp only at hW); go_simp <;> with_reducible rfl
    simp only [Act.put, List.setIfInBounds_toArray, List.set_cons_zero, List.set_cons_succ]
    refine hTake (i := 10) (v := ?_) rfl (by kernel_rfl) (by kernel_rfl) (by kernel_rfl) (by rfl) ?_ hH ?_
    rotate_left
    · intro W hW; (try dsimp only at hW); go_simp <;> with_reducible rfl
    simp only [Act.put, List.setIfInBounds_toArray, List.set_cons_zero, List.set_cons_succ]
    refine hTake (i := 11) (v := ?_) rfl (by kernel_rfl) (by kernel_rfl) (by kernel_rfl) (by rfl) ?_ hH ?_
    rotate_left
    · intro W hW; (try dsimp only at hW); go_simp <;> with_reducible rfl
    simp only [Act.put, List.setIfInBounds_toArray, List.set_cons_zero, List.set_cons_succ]
    refine hTake (i := 12) (v := ?_) rfl (by kernel_rfl) (by kernel_rfl) (by kernel_rfl) (by rfl) ?_ hH ?_
    rotate_left
    · intro W hW; (try dsimp only at hW); go_simp <;> with_reducible rfl
    simp only [Act.put, List.setIfInBounds_toArray, List.set_cons_zero, List.set_cons_succ]
    refine hTake (i := 13) (v := ?_) rfl (by kernel_rfl) (by kernel_rfl) (by kernel_rfl) (by rfl) ?_ hH ?_
    rotate_left
    · intro W hW; (try dsimp only at hW); go_simp <;> with_reducible rfl
    simp only [Act.put, List.setIfInBounds_toArray, List.set_cons_zero, List.set_cons_succ]
    refine hTake (i := 14) (v := ?_) rfl (by kernel_rfl) (by kernel_rfl) (by kernel_rfl) (by rfl) ?_ hH ?_
    rotate_left
    · intro W hW; (try dsimp only at hW); go_simp <;> with_reducible rfl
    simp only [Act.put, List.setIfInBounds_toArray, List.set_cons_zero, List.set_cons_succ]
    refine hTake (i := 15) (v := ?_) rfl (by kernel_rfl) (by kernel_rfl) (by kernel_rfl) (by rfl) ?_ hH ?_
    rotate_left
    · intro W hW; (try dsimp only at hW); go_simp <;> with_reducible rfl
    simp only [Act.put, List.setIfInBounds_toArray, List.set_cons_zero, List.set_cons_succ]
    refine hTake (i := 16) (v := ?_) rfl (by kernel_rfl) (by kernel_rfl) (by kernel_rfl) (by rfl) ?_ hH ?_
    rotate_left
    · intro W hW; (try dsimp only at hW); go_simp <;> with_reducible rfl
    simp only [Act.put, List.setIfInBounds_toArray, List.set_cons_zero, List.set_cons_succ]
    refine hTake (i := 17) (v := ?_) rfl (by kernel_rfl) (by kernel_rfl) (by kernel_rfl) (by rfl) ?_ hH ?_
    rotate_left
    · intro W hW; (try dsimp only at hW); go_simp <;> with_reducible rfl
    simp only [Act.put, List.setIfInBounds_toArray, List.set_cons_zero, List.set_cons_succ]
    refine hTake (i := 18) (v := ?_) rfl (by kernel_rfl) (by kernel_rfl) (by kernel_rfl) (by rfl) ?_ hH ?_
    rotate_left
    · intro W hW; (try dsimp only at hW); go_simp <;> with_reducible rfl
    simp only [Act.put, List.setIfInBounds_toArray, List.set_cons_zero, List.set_cons_succ]
    refine hTake (i := 19) (v := ?_) rfl (by kernel_rfl) (by kernel_rfl) (by kernel_rfl) (by rfl) ?_ hH ?_
    rotate_left
    · intro W hW; (try dsimp only at hW); go_simp <;> with_reducible rfl
    simp only [Act.put, List.setIfInBounds_toArray, List.set_cons_zero, List.set_cons_succ]
    refine hTake (i := 20) (v := ?_) rfl (by kernel_rfl) (by kernel_rfl) (by kernel_rfl) (by rfl) ?_ hH ?_
    rotate_left
    · intro W hW; (try dsimp only at hW); go_simp <;> with_reducible rfl
    simp only [Act.put, List.setIfInBounds_toArray, List.set_cons_zero, List.set_cons_succ]
    refine hTake (i := 21) (v := ?_) rfl (by kernel_rfl) (by kernel_rfl) (by kernel_rfl) (by rfl) ?_ hH ?_
    rotate_left
    · intro W hW; (try dsimp only at hW); go_simp <;> with_reducible rfl
    simp only [Act.put, List.setIfInBounds_toArray, List.set_cons_zero, List.set_cons_succ]
    refine hTake (i := 22) (v := ?_) rfl (by kernel_rfl) (by kernel_rfl) (by kernel_rfl) (by rfl) ?_ hH ?_
    rotate_left
    · intro W hW; (try dsimp only at hW); go_simp <;> with_reducible rfl
    simp only [Act.put, List.setIfInBounds_toArray, List.set_cons_zero, List.set_cons_succ]
    refine hTake (i := 23) (v := ?_) rfl (by kernel_rfl) (by kernel_rfl) (by kernel_rfl) (by rfl) ?_ hH ?_
    rotate_left
    · intro W hW; (try dsimp only at hW); go_simp <;> with_reducible rfl
    simp only [Act.put, List.setIfInBounds_toArray, List.set_cons_zero, List.set_cons_succ]
    refine hTake (i := 24) (v := ?_) rfl (by kernel_rfl) (by kernel_rfl) (by kernel_rfl) (by rfl) ?_ hH ?_
    rotate_left
    · intro W hW; (try dsimp only at hW); go_simp <;> with_reducible rfl
    simp only [Act.put, List.setIfInBounds_toArray, List.set_cons_zero, List.set_cons_succ]
    refine hTake (i := 25) (v := ?_) rfl (by kernel_rfl) (by kernel_rfl) (by kernel_rfl) (by rfl) ?_ hH ?_
    rotate_left
    · intro W hW; (try dsimp only at hW); go_simp <;> with_reducible rfl
    simp only [Act.put, List.setIfInBounds_toArray, List.set_cons_zero, List.set_cons_succ]
    refine hTake (i := 26) (v := ?_) rfl (by kernel_rfl) (by kernel_rfl) (by kernel_rfl) (by rfl) ?_ hH ?_
    rotate_left
    · intro W hW; (try dsimp only at hW); go_simp <;> with_reducible rfl
    simp only [Act.put, List.setIfInBounds_toArray, List.set_cons_zero, List.set_cons_succ]
    refine hTake (i := 27) (v := ?_) rfl (by kernel_rfl) (by kernel_rfl) (by kernel_rfl) (by rfl) ?_ hH ?_
    rotate_left
    · intro W hW; (try dsimp only at hW); go_simp <;> with_reducible rfl
    simp only [Act.put, List.setIfInBounds_toArray, List.set_cons_zero, List.set_cons_succ]
    refine hTake (i := 28) (v := ?_) rfl (by kernel_rfl) (by kernel_rfl) (by kernel_rfl) (by rfl) ?_ hH ?_
    rotate_left
    · intro W hW; (try dsimp only at hW); go_simp <;> with_reducible rfl
    simp only [Act.put, List.setIfInBounds_toArray, List.set_cons_zero, List.set_cons_succ]
    refine hTake (i := 29) (v := ?_) rfl (by kernel_rfl) (by kernel_rfl) (by kernel_rfl) (by rfl) ?_ hH ?_
    rotate_left
    · intro W hW; (try dsimp only at hW); go_simp <;> with_reducible rfl
    simp only [Act.put, List.setIfInBounds_toArray, List.set_cons_zero, List.set_cons_succ]
    refine hTake (i := 30) (v := ?_) rfl (by kernel_rfl) (by kernel_rfl) (by kernel_rfl) (by rfl) ?_ hH ?_
    rotate_left
    · intro W hW; (try dsimp only at hW); go_simp <;> with_reducible rfl
    simp only [Act.put, List.setIfInBounds_toArray, List.set_cons_zero, List.set_cons_succ]
    refine hTake (i := 31) (v := ?_) rfl (by kernel_rfl) (by kernel_rfl) (by kernel_rfl) (by rfl) ?_ hH ?_
    rotate_left
    · intro W hW; (try dsimp only at hW); go_simp <;> with_reducible rfl
    simp only [Act.put, List.setIfInBounds_toArray, List.set_cons_zero, List.set_cons_succ]
    refine hTake (i := 32) (v := ?_) rfl (by kernel_rfl) (by kernel_rfl) (by kernel_rfl) (by rfl) ?_ hH ?_
    rotate_left
    · intro W hW; (try dsimp only at hW); go_simp <;> with_reducible rfl
    simp only [Act.put, List.setIfInBounds_toArray, List.set_cons_zero, List.set_cons_succ]
    refine hTake (i := 33) (v := ?_) rfl (by kernel_rfl) (by kernel_rfl) (by kernel_rfl) (by rfl) ?_ hH ?_
    rotate_left
    · intro W hW; (try dsimp only at hW); go_simp <;> with_reducible rfl
    simp only [Act.put, List.setIfInBounds_toArray, List.set_cons_zero, List.set_cons_succ]
    refine hTake (i := 34) (v := ?_) rfl (by kernel_rfl) (by kernel_rfl) (by kernel_rfl) (by rfl) ?_ hH ?_
    rotate_left
    · intro W hW; (try dsimp only at hW); go_simp <;> with_reducible rfl
    simp only [Act.put, List.setIfInBounds_toArray, List.set_cons_zero, List.set_cons_succ]
    refine hTake (i := 35) (v := ?_) rfl (by kernel_rfl) (by kernel_rfl) (by kernel_rfl) (by rfl) ?_ hH ?_
    rotate_left
    · intro W hW; (try dsimp only at hW); go_simp <;> with_reducible rfl
    simp only [Act.put, List.setIfInBounds_toArray, List.set_cons_zero, List.set_cons_succ]
    refine hTake (i := 36) (v := ?_) rfl (by kernel_rfl) (by kernel_rfl) (by kernel_rfl) (by rfl) ?_ hH ?_
    rotate_left
    · intro W hW; (try dsimp only at hW); go_simp <;> with_reducible rfl
    simp only [Act.put, List.setIfInBounds_toArray, List.set_cons_zero, List.set_cons_succ]
    refine hTake (i := 37) (v := ?_) rfl (by kernel_rfl) (by kernel_rfl) (by kernel_rfl) (by rfl) ?_ hH ?_
    rotate_left
    · intro W hW; (try dsimp only at hW); go_simp <;> with_reducible rfl
    simp only [Act.put, List.setIfInBounds_toArray, List.set_cons_zero, List.set_cons_succ]
    refine hTake (i := 38) (v := ?_) rfl (by kernel_rfl) (by kernel_rfl) (by kernel_rfl) (by rfl) ?_ hH ?_
    rotate_left
    · intro W hW; (try dsimp only at hW); go_simp <;> with_reducible rfl
    simp only [Act.put, List.setIfInBounds_toArray, List.set_cons_zero, List.set_cons_succ]
    refine hTake (i := 39) (v := ?_) rfl (by kernel_rfl) (by kernel_rfl) (by kernel_rfl) (by rfl) ?_ hH ?_
    rotate_left
    · intro W hW; (try dsimp only at hW); go_simp <;> with_reducible rfl
    simp only [Act.put, List.setIfInBounds_toArray, List.set_cons_zero, List.set_cons_succ]
    refine hTake (i := 40) (v := ?_) rfl (by kernel_rfl) (by kernel_rfl) (by kernel_rfl) (by rfl) ?_ hH ?_
    rotate_left
    · intro W hW; (try dsimp only at hW); go_simp <;> with_reducible rfl
    simp only [Act.put, List.setIfInBounds_toArray, List.set_cons_zero, List.set_cons_succ]
    refine hTake (i := 41) (v := ?_) rfl (by kernel_rfl) (by kernel_rfl) (by kernel_rfl) (by rfl) ?_ hH ?_
    rotate_left
    · intro W hW; (try dsimp only at hW); go_simp <;> with_reducible rfl
    simp only [Act.put, List.setIfInBounds_toArray, List.set_cons_zero, List.set_cons_succ]
    refine hTake (i := 42) (v := ?_) rfl (by kernel_rfl) (by kernel_rfl) (by kernel_rfl) (by rfl) ?_ hH ?_
    rotate_left
    · intro W hW; (try dsimp only at hW); go_simp <;> with_reducible rfl
    simp only [Act.put, List.setIfInBounds_toArray, List.set_cons_zero, List.set_cons_succ]
    refine hTake (i := 43) (v := ?_) rfl (by kernel_rfl) (by kernel_rfl) (by kernel_rfl) (by rfl) ?_ hH ?_
    rotate_left
    · intro W hW; (try dsimp only at hW); go_simp <;> with_reducible rfl
    simp only [Act.put, List.setIfInBounds_toArray, List.set_cons_zero, List.set_cons_succ]
    refine hTake (i := 44) (v := ?_) rfl (by kernel_rfl) (by kernel_rfl) (by kernel_rfl) (by rfl) ?_ hH ?_
    rotate_left
    · intro W hW; (try dsimp only at hW); go_simp <;> with_reducible rfl
    simp only [Act.put, List.setIfInBounds_toArray, List.set_cons_zero, List.set_cons_succ]
    refine hTake (i := 45) (v := ?_) rfl (by kernel_rfl) (by kernel_rfl) (by kernel_rfl) (by rfl) ?_ hH ?_
    rotate_left
    · intro W hW; (try dsimp only at hW); go_simp <;> with_reducible rfl
    simp only [Act.put, List.setIfInBounds_toArray, List.set_cons_zero, List.set_cons_succ]
    refine hTake (i := 46) (v := ?_) rfl (by kernel_rfl) (by kernel_rfl) (by kernel_rfl) (by rfl) ?_ hH ?_
    rotate_left
    · intro W hW; (try dsimp only at hW); go_simp <;> with_reducible rfl
    simp only [Act.put, List.setIfInBounds_toArray, List.set_cons_zero, List.set_cons_succ]
    refine hTake (i := 47) (v := ?_) rfl (by kernel_rfl) (by kernel_rfl) (by kernel_rfl) (by rfl) ?_ hH ?_
    rotate_left
    · intro W hW; (try dsimp only at hW); go_simp <;> with_reducible rfl
    simp only [Act.put, List.setIfInBounds_toArray, List.set_cons_zero, List.set_cons_succ]
    refine hTake (i := 48) (v := ?_) rfl (by kernel_rfl) (by kernel_rfl) (by kernel_rfl) (by rfl) ?_ hH ?_
    rotate_left
    · intro W hW; (try dsimp only at hW); go_simp <;> with_reducible rfl
    simp only [Act.put, List.setIfInBounds_toArray, List.set_cons_zero, List.set_cons_succ]
    refine hTake (i := 49) (v := ?_) rfl (by kernel_rfl) (by kernel_rfl) (by kernel_rfl) (by rfl) ?_ hH ?_
    rotate_left
    · intro W hW; (try dsimp only at hW); go_simp <;> with_reducible rfl
    simp only [Act.put, List.setIfInBounds_toArray, List.set_cons_zero, List.set_cons_succ]
    refine hTake (i := 50) (v := ?_) rfl (by kernel_rfl) (by kernel_rfl) (by kernel_rfl) (by rfl) ?_ hH ?_
    rotate_left
    · intro W hW; (try dsimp only at hW); go_simp <;> with_reducible rfl
    simp only [Act.put, List.setIfInBounds_toArray, List.set_cons_zero, List.set_cons_succ]
    refine hTake (i := 51) (v := ?_) rfl (by kernel_rfl) (by kernel_rfl) (by kernel_rfl) (by rfl) ?_ hH ?_
    rotate_left
    · intro W hW; (try dsimp only at hW); go_simp <;> with_reducible rfl
    simp only [Act.put, List.setIfInBounds_toArray, List.set_cons_zero, List.set_cons_succ]
    refine hTake (i := 52) (v := ?_) rfl (by kernel_rfl) (by kernel_rfl) (by kernel_rfl) (by rfl) ?_ hH ?_
    rotate_left
    · intro W hW; (try dsimp only at hW); go_simp <;> with_reducible rfl
    simp only [Act.put, List.setIfInBounds_toArray, List.set_cons_zero, List.set_cons_succ]
    refine hTake (i := 53) (v := ?_) rfl (by kernel_rfl) (by kernel_rfl) (by kernel_rfl) (by rfl) ?_ hH ?_
    rotate_left
    · intro W hW; (try dsimp only at hW); go_simp <;> with_reducible rfl
    simp only [Act.put, List.setIfInBounds_toArray, List.set_cons_zero, List.set_cons_succ]
    refine hTake (i := 54) (v := ?_) rfl (by kernel_rfl) (by kernel_rfl) (by kernel_rfl) (by rfl) ?_ hH ?_
    rotate_left
    · intro W hW; (try dsimp only at hW); go_simp <;> with_reducible rfl
    simp only [Act.put, List.setIfInBounds_toArray, List.set_cons_zero, List.set_cons_succ]
    refine hTake (i := 55) (v := ?_) rfl (by kernel_rfl) (by kernel_rfl) (by kernel_rfl) (by rfl) ?_ hH ?_
    rotate_left
    · intro W hW; (try dsimp only at hW); go_simp <;> with_reducible rfl
    simp only [Act.put, List.setIfInBounds_toArray, List.set_cons_zero, List.set_cons_succ]
    refine hTake (i := 56) (v := ?_) rfl (by kernel_rfl) (by kernel_rfl) (by kernel_rfl) (by rfl) ?_ hH ?_
    rotate_left
    · intro W hW; (try dsimp only at hW); go_simp <;> with_reducible rfl
    simp only [Act.put, List.setIfInBounds_toArray, List.set_cons_zero, List.set_cons_succ]
    refine hTake (i := 57) (v := ?_) rfl (by kernel_rfl) (by kernel_rfl) (by kernel_rfl) (by rfl) ?_ hH ?_
    rotate_left
    · intro W hW; (try dsimp only at hW); go_simp <;> with_reducible rfl
    simp only [Act.put, List.setIfInBounds_toArray, List.set_cons_zero, List.set_cons_succ]
    refine hTake (i := 58) (v := ?_) rfl (by kernel_rfl) (by kernel_rfl) (by kernel_rfl) (by rfl) ?_ hH ?_
    rotate_left
    · intro W hW; (try dsimp only at hW); go_simp <;> with_reducible rfl
    simp only [Act.put, List.setIfInBounds_toArray, List.set_cons_zero, List.set_cons_succ]
    refine hTake (i := 59) (v := ?_) rfl (by kernel_rfl) (by kernel_rfl) (by kernel_rfl) (by rfl) ?_ hH ?_
    rotate_left
    · intro W hW; (try dsimp only at hW); go_simp <;> with_reducible rfl
    simp only [Act.put, List.setIfInBounds_toArray, List.set_cons_zero, List.set_cons_succ]
    refine hTake (i := 60) (v := ?_) rfl (by kernel_rfl) (by kernel_rfl) (by kernel_rfl) (by rfl) ?_ hH ?_
    rotate_left
    · intro W hW; (try dsimp only at hW); go_simp <;> with_reducible rfl
    simp only [Act.put, List.setIfInBounds_toArray, List.set_cons_zero, List.set_cons_succ]
    refine hTake (i := 61) (v := ?_) rfl (by kernel_rfl) (by kernel_rfl) (by kernel_rfl) (by rfl) ?_ hH ?_
    rotate_left
    · intro W hW; (try dsimp only at hW); go_simp <;> with_reducible rfl
    simp only [Act.put, List.setIfInBounds_toArray, List.set_cons_zero, List.set_cons_succ]
    refine hTake (i := 62) (v := ?_) rfl (by kernel_rfl) (by kernel_rfl) (by kernel_rfl) (by rfl) ?_ hH ?_
    rotate_left
    · intro W hW; (try dsimp only at hW); go_simp <;> with_reducible rfl
    simp only [Act.put, List.setIfInBounds_toArray, List.set_cons_zero, List.set_cons_succ]
    refine hTake (i := 63) (v := ?_) rfl (by kernel_rfl) (by kernel_rfl) (by kernel_rfl) (by rfl) ?_ hH ?_
    rotate_left
    · intro W hW; (try dsimp only at hW); go_simp <;> with_reducible rfl
    simp only [Act.put, List.setIfInBounds_toArray, List.set_cons_zero, List.set_cons_succ]
    refine hTake (i := 64) (v := ?_) rfl (by kernel_rfl) (by kernel_rfl) (by kernel_rfl) (by rfl) ?_ hH ?_
    rotate_left
    · intro W hW; (try dsimp only at hW); go_simp <;> with_reducible rfl
    simp only [Act.put, List.setIfInBounds_toArray, List.set_cons_zero, List.set_cons_succ]
    refine hTake (i := 65) (v := ?_) rfl (by kernel_rfl) (by kernel_rfl) (by kernel_rfl) (by rfl) ?_ hH ?_
    rotate_left
    · intro W hW; (try dsimp only at hW); go_simp <;> with_reducible rfl
    simp only [Act.put, List.setIfInBounds_toArray, List.set_cons_zero, List.set_cons_succ]
    refine hTake (i := 66) (v := ?_) rfl (by kernel_rfl) (by kernel_rfl) (by kernel_rfl) (by rfl) ?_ hH ?_
    rotate_left
    · intro W hW; (try dsimp only at hW); go_simp <;> with_reducible rfl
    simp only [Act.put, List.setIfInBounds_toArray, List.set_cons_zero, List.set_cons_succ]
    refine hTake (i := 67) (v := ?_) rfl (by kernel_rfl) (by kernel_rfl) (by kernel_rfl) (by rfl) ?_ hH ?_
    rotate_left
    · intro W hW; (try dsimp only at hW); go_simp <;> with_reducible rfl
    simp only [Act.put, List.setIfInBounds_toArray, List.set_cons_zero, List.set_cons_succ]
    refine hTake (i := 68) (v := ?_) rfl (by kernel_rfl) (by kernel_rfl) (by kernel_rfl) (by rfl) ?_ hH ?_
    rotate_left
    · intro W hW; (try dsimp only at hW); go_simp <;> with_reducible rfl
    simp only [Act.put, List.setIfInBounds_toArray, List.set_cons_zero, List.set_cons_succ]
    refine hTake (i := 69) (v := ?_) rfl (by kernel_rfl) (by kernel_rfl) (by kernel_rfl) (by rfl) ?_ hH ?_
    rotate_left
    · intro W hW; (try dsimp only at hW); go_simp <;> with_reducible rfl
    simp only [Act.put, List.setIfInBounds_toArray, List.set_cons_zero, List.set_cons_succ]
    refine hTake (i := 70) (v := ?_) rfl (by kernel_rfl) (by kernel_rfl) (by kernel_rfl) (by rfl) ?_ hH ?_
    rotate_left
    · intro W hW; (try dsimp only at hW); go_simp <;> with_reducible rfl
    simp only [Act.put, List.setIfInBounds_toArray, List.set_cons_zero, List.set_cons_succ]
    refine hTake (i := 71) (v := ?_) rfl (by kernel_rfl) (by kernel_rfl) (by kernel_rfl) (by rfl) ?_ hH ?_
    rotate_left
    · intro W hW; (try dsimp only at hW); go_simp <;> with_reducible rfl
    simp only [Act.put, List.setIfInBounds_toArray, List.set_cons_zero, List.set_cons_succ]
    refine hTake (i := 72) (v := ?_) rfl (by kernel_rfl) (by kernel_rfl) (by kernel_rfl) (by rfl) ?_ hH ?_
    rotate_left
    · intro W hW; (try dsimp only at hW); go_simp <;> with_reducible rfl
    simp only [Act.put, List.setIfInBounds_toArray, List.set_cons_zero, List.set_cons_succ]
    refine wpAnyH_done (by kernel_rfl) ?_ _
    refine NoPanic.normal ?_
    have b6 := hH.2.2.2.2.2.2.2.2.2.2.2.2.2
    have u1' := hH.2.2.2.2.2.2.2.1
    clear hH x1 x2 y1 y2 v0 v1 u0 u1 u2 k0 k3 k4 j0 lx ly lv lu lr lj
    have o1 := oA.below b6
    have o5 := oC.below b6
    have bE := bF0.trans (b6.mono bF0.size)
    have w1c := u1'
    have lw := lt_of_cell w1c
    go_wp2_with fail
    refine (RO _ o1).mono ?_
    rintro e w7 ⟨a7, c7, rfl, o7, b7⟩
    have hfd7 := fun W => fieldRs1 0 a7 mF c7 W
    go_wp2_with fail
    refine (MF _ _ _ (owns_cells o7)).mono ?_
    rintro e w8 ⟨a8, m8, c8, rfl, hm8, o8, b8⟩
    have b78 := b7.trans (b8.mono b7.size)
    have o5 := o5.below b78
    have bE := bE.trans (b78.mono bE.size)
    have w1c := keep_cell b78 w1c
    have kA8 : Below w8.heap.size w8 (w8.alloc (.cells #[.int .i64 0, .slice a8 m8 c8] 44)) := (Below.refl _ _).alloc (Nat.le_refl _) _
    have hP12 := heap_alloc_new w8 (.cells #[.int .i64 0, .slice a8 m8 c8] 44)
    have w1d := keep_cell kA8 w1c
    have lw := lt_of_cell w1d
    clear o7 b7 b8 b78 hfd7
    go_wp2_with fail
    refine (RU _ _ _ _ ((o5.below kA8).lv hsz)).mono ?_
    rintro e w9 ⟨a9, c9, rfl, o9, b9⟩
    have hfd9 := fun W => fieldRs1 0 a9 mG c9 W
    go_wp2_with fail
    refine (MG _ _ _ (owns_cells o9)).mono ?_
    rintro e w10 ⟨a10, m10, c10, rfl, hm10, o10, b10⟩
    have b910 := b9.trans (b10.mono b9.size)
    have hP12 := block_below b910 hP12
    have k910 := kA8.trans (b910.mono (by simp))
    have o8 := owns_below o8 k910
    have bE := bE.trans (k910.mono bE.size)
    have kA10 : Below w10.heap.size w10 (w10.alloc (.cells #[.int .i64 0, .slice a10 m10 c10] 44)) := (Below.refl _ _).alloc (Nat.le_refl _) _
    have hP13 := heap_alloc_new w10 (.cells #[.int .i64 0, .slice a10 m10 c10] 44)
    have hP12 := block_below kA10 hP12
    obtain ⟨z0, z1⟩ := two_of hP12
    obtain ⟨t0, t1⟩ := two_of hP13
    have lz := lt_of_cell z0
    have LW := fun W h1 h2 => lwRows_any a8 a10 m8 c8 m10 c10 G G W h1 h2 hm8 hm10
    rw [Ch.sameL_self] at LW
    clear o9 b9 b10 b910 hfd9 k910
    go_wp2_with fail
    refine (LW _ (owns_cells (owns_below o8 kA10)) (owns_cells (owns_below o10 kA10))).mono ?_
    rintro e w11 ⟨rfl, b11⟩
    have bF := bE.trans ((kA10.trans (b11.mono (by simp))).mono bE.size)
    go_wp2
    go_ret
    exact ⟨rfl, bF⟩
end Go.Proofs.Ythfanfnbjldddaa


/- Arguments that came in, opened: a list of bytes, a struct of seven fields, a log of two lists of bytes. -/
namespace Go.Proofs.Ythfanfnbjldddaa
open Go.ChangeShapes Go.WideShapes Go.ChangeAt Go.RowKit Go.Joins Go.Deep

theorem Try.own : ownKnob Try.prog.godebug = none := by kernel_rfl
theorem Try.laidOut : laidOutB Try.prog = true := by kernel_rfl

theorem array7 {α : Type} {cs : Array α} (h : cs.size = 7) : ∃ c0 c1 c2 c3 c4 c5 c6, cs = #[c0, c1, c2, c3, c4, c5, c6] := by
  obtain ⟨l⟩ := cs
  match l, h with
  | [c0, c1, c2, c3, c4, c5, c6], _ => exact ⟨c0, c1, c2, c3, c4, c5, c6, rfl⟩

section
variable {H : Type} {enc : TypeId × Value → H} {P : Program} {w : World} {base : Nat} {spare : Nat → Bool} {held : Bool}

theorem open_agg7 {r : Reach} {b0 : Nat} {t : TypeId} {f0 f1 f2 f3 f4 f5 f6 : Field} {v : Value} {d : DataW H} {p : List MemPlace} (hs : P.underlying t = some (.struct #[f0, f1, f2, f3, f4, f5, f6])) (hone : oneCellFields P #[f0, f1, f2, f3, f4, f5, f6] = true) (hC : P.cellsOf t = 7)
    (hv : Value.okWide P w r b0 t v) (h : DataW.Trod enc P w base spare held t v d p) :
    ∃ (v0 v1 v2 v3 v4 v5 v6 : Value) (y0 y1 y2 y3 y4 y5 y6 : DataW H × List MemPlace) (n : Nat), v = .agg #[v0, v1, v2, v3, v4, v5, v6] ∧
      DataW.trod enc P w base spare held n f0.type [v0] = some y0 ∧ DataW.trod enc P w base spare held n f1.type [v1] = some y1 ∧ DataW.trod enc P w base spare held n f2.type [v2] = some y2 ∧ DataW.trod enc P w base spare held n f3.type [v3] = some y3 ∧
      DataW.trod enc P w base spare held n f4.type [v4] = some y4 ∧ DataW.trod enc P w base spare held n f5.type [v5] = some y5 ∧ DataW.trod enc P w base spare held n f6.type [v6] = some y6 := by
  obtain ⟨cs, rfl, hsz⟩ := okWide_struct hs hv
  obtain ⟨c0, c1, c2, c3, c4, c5, c6, rfl⟩ := array7 (hsz.trans hC)
  obtain ⟨fuel, hf⟩ := h
  obtain ⟨xs, n, _, _, hl, hlen, hf⟩ := DataW.trod_struct hs hf
  obtain ⟨o0, k0⟩ := hone_of hone 0 f0 rfl
  obtain ⟨o1, k1⟩ := hone_of hone 1 f1 rfl
  obtain ⟨o2, k2⟩ := hone_of hone 2 f2 rfl
  obtain ⟨o3, k3⟩ := hone_of hone 3 f3 rfl
  obtain ⟨o4, k4⟩ := hone_of hone 4 f4 rfl
  obtain ⟨o5, k5⟩ := hone_of hone 5 f5 rfl
  obtain ⟨o6, k6⟩ := hone_of hone 6 f6 rfl
  match xs, hlen with
  | [y0, y1, y2, y3, y4, y5, y6], _ =>
    exact ⟨c0, c1, c2, c3, c4, c5, c6, y0, y1, y2, y3, y4, y5, y6, n, rfl,
      by simpa [Value.cells, o0, k0] using hf 0 f0 rfl, by simpa [Value.cells, o1, k1] using hf 1 f1 rfl, by simpa [Value.cells, o2, k2] using hf 2 f2 rfl, by simpa [Value.cells, o3, k3] using hf 3 f3 rfl,
      by simpa [Value.cells, o4, k4] using hf 4 f4 rfl, by simpa [Value.cells, o5, k5] using hf 5 f5 rfl, by simpa [Value.cells, o6, k6] using hf 6 f6 rfl⟩
end

/-- A list of bytes that came in, opened. -/
theorem open_bytesF {H : Type} {enc : TypeId × Value → H} {w : World} {base : Nat} {spare : Nat → Bool} {held : Bool} {a : Option Addr} {len cap fuel : Nat} {y : DataW H × List MemPlace}
    (hk : Try.prog.cellsOf 5 = 1) (hf : DataW.trod enc Try.prog w base spare held fuel 22 [.slice a len cap] = some y) : (∃ zs, CellsAt w a len (bts zs) ∧ IsB zs) ∧ len ≤ cap := by
  rcases open_ints Try.underlying22 Try.underlying5 hk hf with ⟨hcs, _⟩ | ⟨x, l, c, zs, hcs, _, hl, hm, hz, _, hcell, hwz⟩
  · simp at hcs
    obtain ⟨rfl, rfl, rfl⟩ := hcs
    exact ⟨⟨[], ⟨rfl, fun h => absurd h (by simp)⟩, fun i => by simp⟩, Nat.le_refl _⟩
  · simp at hcs
    obtain ⟨rfl, rfl, rfl⟩ := hcs
    have hle : len ≤ zs.length := by rw [hz]; split <;> omega
    refine ⟨⟨zs.take len, ⟨by simp [bts, Nat.min_eq_left hle], fun hpos => ?_⟩, ?_⟩, by omega⟩
    · obtain ⟨b, off, spot⟩ := x
      have hc0 := hcell 0 (by omega)
      have hspot : spot = none := by simpa [Addr.add] using World.cell?_spot hc0
      subst hspot
      refine ⟨b, off, rfl, fun i hi => ?_⟩
      have := hcell i (by omega)
      rw [add_plain] at this
      rw [this]
      simp [bts, hi, List.getD, show i < zs.length by omega]
    · have := range_u8 (zs := zs.take len) (fun n hn => hwz n (List.mem_of_mem_take hn))
      simpa [IsB, List.getD] using this

theorem open_bytes {H : Type} {enc : TypeId × Value → H} {w : World} {base : Nat} {spare : Nat → Bool} {held : Bool} {a : Option Addr} {len cap : Nat} {d : DataW H} {p : List MemPlace}
    (hk : Try.prog.cellsOf 5 = 1) (h : DataW.Trod enc Try.prog w base spare held 22 (.slice a len cap) d p) : ∃ zs, CellsAt w a len (bts zs) ∧ IsB zs := by
  obtain ⟨fuel, hf⟩ := h
  exact (open_bytesF hk (by simpa [Value.cells] using hf)).1
end Go.Proofs.Ythfanfnbjldddaa

