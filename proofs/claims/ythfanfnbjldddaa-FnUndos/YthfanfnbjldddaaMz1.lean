/- Several texts in one: RecW, Cln0, SetI, SetV, SetS, BckI, BckD, BckT. -/
import Derived.Test.YthfanfnbjldddaaSmall
import Derived.Test.YthfanfnbjldddaaRecM
import Derived.Test.YthfanfnbjldddaaCopyW
import Derived.Maps.AppendAt
import Derived.Lib.AppendZeros
import Derived.Test.YthfanfnbjldddaaMz2
import Derived.Defers
import Derived.Recover


/- Walks of the functions on one record: its copy, its fault (of the program and of the model). -/
namespace Go.Proofs.Ythfanfnbjldddaa
open Go.RowKit

theorem l2Txn_any (v : Int) (w : World) :
    Calls Try.prog 62 #[.int .i64 v] w fun e w' => e = .returned (.bool (Ch.inB v 1 999)) ∧ w' = w := by
  go_enter Try.func62, Try.ntmps62
  go_wp2_with (go_at_call 108; refine (in_any _ _ _ _).mono ?_; rintro e w' ⟨rfl, rfl⟩)
  go_ret
  exact ⟨rfl, rfl⟩

theorem isTxn_any (v : Int) (w : World) :
    Calls Try.prog 77 #[.int .i64 v] w fun e w' => e = .returned (.bool (Ch.inB v 1 999)) ∧ w' = w := by
  unfold Ch.inB
  by_cases h1 : 1 ≤ v
  all_goals by_cases h2 : v ≤ 999
  all_goals
    go_enter Try.func77, Try.ntmps77
    go_wp2
    go_ret
    exact ⟨by simp [h1, h2], rfl⟩

theorem tells_any (v : Int) (w : World) :
    Calls Try.prog 78 #[.int .i64 v] w fun e w' => e = .returned (.bool (Ch.sets v)) ∧ w' = w := by
  unfold Ch.sets
  cases h1 : (v == 2)
  all_goals
    go_enter Try.func78, Try.ntmps78
    go_wp2
    go_ret
    exact ⟨by simp, rfl⟩

end Go.Proofs.Ythfanfnbjldddaa


/- Leaves that are none, copied. -/
namespace Go.Proofs.Ythfanfnbjldddaa
open Go.RowKit

theorem wpList_app0 {ops : Array Oper} {rest : List Oper} {o : Oper} {a : Act} {w : World} {Q : Exit → Act → World → Prop} (s x : Operand)
    (B : Nat) (v : Value) (n : Nat) (xs : List Value) (ad : Addr) (c : Nat) (hn : n ≤ 2097152)
    (ho : o.op = .call { callee := .builtin .append, args := #[s, x], argTypes := #[24, 24] }) (hgd : o.guard = none)
    (hs : a.eval s = v) (hx : a.eval x = .slice (some ad) 0 c) (hown : w.ownsRow B 107 1 v n xs) (hbase : B ≤ w.heap.size)
    (hK : ∀ a' c' w', w'.ownsRow B 107 1 (.slice a' n c') n xs → w.grownBy w' v.ownBlock → wpList Try.prog ops Q rest (a.put o.dst (.slice a' n c')) w') :
    wpList Try.prog ops Q (o :: rest) a w := by
  obtain ⟨i0, hi, hz0, hz1, hz2⟩ := info_parts Try.info107
  obtain ⟨v', w', hr, h2, h3, _, h5⟩ := run_append_own_at (P := Try.prog) w B 24 o.type 107 i0 _ 1 24 Try.underlying24 hi hz0 hz1 hz2 rfl (by omega) v n xs hown ad 0 c [] rfl (fun j u hj => by simp at hj) (fun u hu => by cases hu) (by unfold maxLen; omega) (by omega) hbase
  obtain ⟨a', c', rfl⟩ := owns_shape h2
  rw [List.append_nil] at h2
  exact Lib.wpList_append_run w hgd s x 24 24 ho _ _ hs hx _ _ hr (hK a' c' w' h2 h3)

set_option maxHeartbeats 400000 in
theorem cloneLeaf0_any (a : Option Addr) (cap : Nat) (w : World) :
    Calls Try.prog 132 #[.slice a 0 cap] w fun e w' => ∃ a' c', e = .returned (.slice a' 0 c') ∧ w'.ownsRow w.heap.size 107 1 (.slice a' 0 c') 0 [] ∧ Below w.heap.size w w' := by
  have hnil := fun W => Lib.run_eql_slice_nil (P := Try.prog) W 24 107 a 0 cap 0 0 Try.underlying24
  cases a with
  | none =>
    simp only [Option.isNone_none] at hnil
    go_enter Try.func132, Try.ntmps132
    go_wp2
    go_ret
    exact ⟨none, 0, rfl, World.ownsRow_nil _ _ _ _, Below.refl _ _⟩
  | some ad =>
    simp only [Option.isNone_some] at hnil
    have hb0 : Below w.heap.size w (w.alloc (.cells #[] 107)) := (Below.refl _ _).alloc (Nat.le_refl _) _
    have ho := empty_leaves w w.heap.size (Nat.le_refl _)
    go_enter Try.func132, Try.ntmps132
    go_wp2_with (at_builtin; go_must (refine wpList_app0 (.tmp 5) (.tmp 6) w.heap.size (.slice (some ⟨w.heap.size, 0, none⟩) 0 0) 0 [] ad cap (by omega) ?_ ?_ ?_ ?_ ho ?_ ?_; exact rfl; exact rfl; exact rfl; exact rfl; (focus (simp; done)); intro a1 c1 w1 own1 gr1))
    go_ret
    exact ⟨a1, c1, rfl, own1, hb0.grown gr1 (by simp) (fun k hk => by simp [Value.ownBlock] at hk; omega)⟩

set_option maxHeartbeats 800000 in
theorem cloneLeavesAll_any (a : Option Addr) (n cap : Nat) (ls : List (List Ch.Row)) (w : World) (h : LvAt w a n ls) (hs : Ch.lvSize ls ≤ 1048576) (hg : ∀ k, k < n → (ls.getD k []).length ≠ 0) :
    Calls Try.prog 106 #[.slice a n cap] w fun e w' => ∃ a' c', e = .returned (.slice a' n c') ∧ OwnLv w' w.heap.size (.slice a' n c') n ls ∧ Below w.heap.size w w' := by
  by_cases hn0 : 0 < n
  · refine (cloneLeaves_any a n cap ls w h hs hg hn0).mono ?_
    rintro e w1 ⟨g, c', rfl, o1, b1⟩
    exact ⟨_, c', rfl, o1, b1⟩
  · obtain rfl : n = 0 := by omega
    have hl : ls = [] := List.eq_nil_of_length_eq_zero h.len.out.symm
    subst hl
    go_enter Try.func106, Try.ntmps106
    go_wp2_with fail
    refine (cloneLeaf0_any a cap _).mono ?_
    rintro e w1 ⟨a1, c1, rfl, o1, b1⟩
    go_wp2
    go_loopw [10] (fun i wr => i = .int .i64 0 ∧ wr = w1) (fun _ _ => 0)
    case atStart => exact ⟨rfl, rfl⟩
    case round =>
      obtain ⟨rfl, rfl⟩ := hrel
      go_wp2
      go_ret
      exact ⟨a1, c1, rfl, ⟨rfl, [], o1, fun i hi => absurd hi (by omega), fun i j x y g _ hx => by simp at hx, fun i x g hx => by simp at hx⟩, b1⟩
end Go.Proofs.Ythfanfnbjldddaa


/- SetValue of the program. -/
namespace Go.Proofs.Ythfanfnbjldddaa
open Go.RowKit

/-- Leaves and records, apart: the leaves lie from lo to hi, the records don't. -/
def OwnU (w : World) (B : Nat) (lv : Value) (m : Nat) (ls : List (List Ch.Row)) (rv : Value) (p : Nat) (rs : List Ch.Rec) : Prop :=
  ∃ vs lo hi, OwnV w B lv m vs ls ∧ w.ownsRow B 41 7 rv p (rc7 rs) ∧ B ≤ lo ∧ hi ≤ w.heap.size ∧ (∀ g, lv.ownBlock = some g → lo ≤ g ∧ g < hi) ∧ (∀ (i : Nat) (x : Value) (g : Nat), vs[i]? = some x → x.ownBlock = some g → lo ≤ g ∧ g < hi) ∧ (∀ g, rv.ownBlock = some g → g < lo ∨ hi ≤ g)
theorem OwnU.below {w w' : World} {B m p : Nat} {lv rv : Value} {ls : List (List Ch.Row)} {rs : List Ch.Rec} (h : OwnU w B lv m ls rv p rs) (hb : Below w.heap.size w w') : OwnU w' B lv m ls rv p rs := by
  obtain ⟨vs, lo, hi, h1, h2, h3, h4, h5⟩ := h
  exact ⟨vs, lo, hi, h1.below hb, owns_below h2 hb, h3, Nat.le_trans h4 hb.size, h5⟩
theorem OwnU.base {w : World} {B B' m p : Nat} {lv rv : Value} {ls : List (List Ch.Row)} {rs : List Ch.Rec} (h : OwnU w B lv m ls rv p rs) (hb : B' ≤ B) : OwnU w B' lv m ls rv p rs := by
  obtain ⟨vs, lo, hi, h1, h2, h3, h4, h5⟩ := h
  exact ⟨vs, lo, hi, h1.base hb, owns_base h2 hb, Nat.le_trans hb h3, h4, h5⟩
theorem OwnU.none (w : World) (B : Nat) : OwnU w B (.slice none 0 0) 0 [] (.slice none 0 0) 0 [] := by
  refine ⟨[], B, 0, ⟨rfl, World.ownsRow_nil _ _ _ _, fun i hi => absurd hi (by omega), fun i j x y g _ hx => by simp at hx, fun i x g hx => by simp at hx⟩, World.ownsRow_nil _ _ _ _, Nat.le_refl _, Nat.zero_le _, fun g hg => by simp [Value.ownBlock] at hg, fun i x g hx => by simp at hx, fun g hg => by simp [Value.ownBlock] at hg⟩
theorem OwnU.len {w : World} {B m p : Nat} {lv rv : Value} {ls : List (List Ch.Row)} {rs : List Ch.Rec} (h : OwnU w B lv m ls rv p rs) : m = ls.length ∧ p = rs.length := by
  obtain ⟨vs, lo, hi, h1, h2, _⟩ := h
  refine ⟨h1.1.symm, ?_⟩
  have := h2.1
  rw [rc7_len] at this
  omega
theorem OwnU.lv {w : World} {B m p cap : Nat} {a : Option Addr} {rv : Value} {ls : List (List Ch.Row)} {rs : List Ch.Rec} (h : OwnU w B (.slice a m cap) m ls rv p rs) (hs : Ch.lvSize ls ≤ 1048576) : LvAt w a m ls := by
  obtain ⟨vs, lo, hi, h1, _⟩ := h
  exact h1.own.at (small_at hs)
theorem OwnU.rc {w : World} {B m p q : Nat} {r : Option Addr} {lv : Value} {ls : List (List Ch.Row)} {rs : List Ch.Rec} (h : OwnU w B lv m ls (.slice r p q) p rs) : CellsAt w r (p * 7) (rc7 rs) := by
  obtain ⟨vs, lo, hi, _, h2, _⟩ := h
  exact owns_cells h2
/-- One record that was just made, behind the leaves. -/
theorem own_rec {W : World} {B H : Nat} (r : Ch.Rec) (hH : H = W.heap.size) (hB : B ≤ W.heap.size) : (W.alloc (.cells #[.int .i64 r.kd, .int .i64 r.tx, .int .i64 r.ky, .bool r.hd, .int .i64 r.ol, .bool r.hs, .int .i64 r.nw] 41)).ownsRow B 41 7 (.slice (some ⟨H, 0, none⟩) 1 1) 1 (rc7 [r]) := by
  subst hH
  exact World.ownsRow_lit W #[.int .i64 r.kd, .int .i64 r.tx, .int .i64 r.ky, .bool r.hd, .int .i64 r.ol, .bool r.hs, .int .i64 r.nw] 1 hB (by unfold maxLen; omega) rfl
theorem OwnV.apart {w : World} {B m H : Nat} {lv : Value} {vs : List Value} {ls : List (List Ch.Row)} (h : OwnV w B lv m vs ls) (hH : w.heap.size ≤ H) : lv.ownBlock ≠ some H ∧ ∀ (i : Nat) (x : Value), vs[i]? = some x → x.ownBlock ≠ some H := by
  refine ⟨fun hb => ?_, fun i x hx hb => ?_⟩
  · have := (owns_lt h.2.1 H hb).2; omega
  · have := (h.lt i x H hx hb).2; omega

set_option maxHeartbeats 400000 in
theorem setFault_any (a : Option Addr) (n cap : Nat) (tx : Int) (ab : Option Addr) (nb cb : Nat) (ls : List (List Ch.Row)) (bs : List Ch.Bf) (w : World) (h : LvAt w a n ls) (hs : Ch.lvSize ls ≤ 1048576) (hb : CellsAt w ab (nb * 3) (bfcells bs)) (hnb : nb ≤ 1048576) :
    Calls Try.prog 59 #[.slice a n cap, .int .i64 tx, .slice ab nb cb] w fun e w' => e = .returned (.int .i64 (Ch.setF ls tx bs)) ∧ Below w.heap.size w w' := by
  have LI := fun W hW => implLeaves_any a n cap ls W hW hs
  have BI := fun W hW => implBefores_any ab nb cb bs W hW hnb
  have IT := fun W => isTxn_any tx W
  have HR : Hid (Ch.setF ls tx bs = if Ch.leavesFault ls != 0 then Ch.leavesFault ls else if Ch.inB tx 1 999 then Ch.befFault bs else 3) := rfl
  generalize Ch.leavesFault ls = c at *
  generalize Ch.befFault bs = d at *
  by_cases h0 : c = 0
  · subst h0
    cases ht : Ch.inB tx 1 999
    · rw [ht] at IT HR
      go_enter Try.func59, Try.ntmps59
      go_wp2_with fail
      refine (LI _ h).mono ?_
      rintro e w1 ⟨rfl, b1⟩
      go_wp2_with (go_at_call 77; refine (IT _).mono ?_; rintro e w' ⟨rfl, rfl⟩)
      go_ret
      exact ⟨ret_int HR.out.symm, b1⟩
    · rw [ht] at IT HR
      go_enter Try.func59, Try.ntmps59
      go_wp2_with fail
      refine (LI _ h).mono ?_
      rintro e w1 ⟨rfl, b1⟩
      go_wp2_with fail
      refine (IT _).mono ?_
      rintro e w' ⟨rfl, rfl⟩
      go_wp2_with fail
      refine (BI _ (hb.below b1)).mono ?_
      rintro e w2 ⟨rfl, b2⟩
      go_wp2
      go_ret
      exact ⟨ret_int HR.out.symm, b1.trans (b2.mono b1.size)⟩
  · have hc : (c != 0) = true := by simpa using h0
    rw [hc] at HR
    go_enter Try.func59, Try.ntmps59
    go_wp2_with fail
    refine (LI _ h).mono ?_
    rintro e w1 ⟨rfl, b1⟩
    go_wp2
    go_ret
    exact ⟨ret_int HR.out.symm, b1⟩


set_option linter.unusedSimpArgs false in
set_option maxHeartbeats 2000000 in
theorem putValue_any (a : Option Addr) (n cap : Nat) (key : Int) (has : Bool) (v : Int) (ls : List (List Ch.Row)) (w : World) (h : LvAt w a n ls) (hg : Ch.leavesFault ls = 0) (hk : Ch.inB key 0 99 = true) (hv : Ch.inB v 0 9999 = true) :
    Calls Try.prog 60 #[.slice a n cap, .int .i64 key, .bool has, .int .i64 v] w fun e w' => ∃ a' m c', e = .returned (.agg #[.int .i64 (Ch.setLs ls key has v).1, .slice a' m c']) ∧ OwnLv w' w.heap.size (.slice a' m c') m (Ch.setLs ls key has v).2 ∧ Below w.heap.size w w' := by
  have hs := Ch.good_size hg
  have b0 : Below w.heap.size w (w.alloc (.cells #[.int .i64 0, .slice none 0 0] 97)) := (Below.refl _ _).alloc (Nat.le_refl _) _
  have PI := fun W rv rg hW => implPutRow_any a n cap ls key rv rg W hW hs
  cases has
  · have FI := fun W hW => implFindRow_any a n cap key ls W hW hs
    have hfd : ∀ (x : Int) (y : Value) W, (Instr.field 44 (.agg #[.int .i64 x, y]) 0).run Try.prog W = .ok (.int .i64 x) W := fun _ _ _ => by kernel_rfl
    have ha := Ch.asked_of hg hk
    cases hf : Ch.findR ls key with
    | none =>
      rw [Ch.setLs_none hf]
      rw [Ch.findRR_none (by rw [ha]; rfl) hf] at FI
      have CI := fun W hW => cloneLeavesAll_any a n cap ls W hW hs (good_leaves (key := key) h.len.out (by rw [ha]; rfl))
      clear PI ha hf
      go_enter Try.func60, Try.ntmps60
      go_wp2_with fail
      refine (FI _ (h.below b0)).mono ?_
      rintro e w1 ⟨a1, m1, c1, rfl, hm1, own1, b1⟩
      obtain ⟨x0, x1, f0, f1⟩ := two_box b1
      have hz := lt_of_cell x0
      have bE := b0.trans (b1.mono b0.size)
      clear FI own1 b1
      go_wp2_with fail
      refine (CI _ (h.below bE)).mono ?_
      rintro e w2 ⟨a2, c2, rfl, own2, b2⟩
      replace x0 := keep_cell b2 x0
      replace x1 := keep_cell b2 x1
      replace f0 := ((bcell b2).2 w.heap.size 0 hz).trans f0
      replace f1 := ((bcell b2).2 w.heap.size 1 hz).trans f1
      have bF := bE.trans (b2.mono bE.size)
      obtain ⟨vs, own2⟩ := own2.told
      have st := (own2.store (p := w.heap.size) (o := 0) (u := .int .i64 0) (fun g hg => by have := (owns_lt own2.2.1 g hg).1; omega) (fun i x g hx hg => by have := (own2.lt i x g hx hg).1; omega)).store (p := w.heap.size) (o := 1) (u := .slice a2 n c2) (fun g hg => by have := (owns_lt own2.2.1 g hg).1; omega) (fun i x g hx hg => by have := (own2.lt i x g hx hg).1; omega)
      go_wp2
      exact bodyPost_ret (v := .agg #[.int .i64 0, .slice a2 n c2]) (by simp [results, Try.results60, go_sem, x0, x1]) rfl ⟨a2, n, c2, rfl, (st.base bE.size).own, (bF.setCell (p := ⟨w.heap.size, 0, none⟩) (Nat.le_refl _) _).setCell (p := ⟨w.heap.size, 1, none⟩) (Nat.le_refl _) _⟩
    | some r =>
      have hi : (Ch.findR ls key).isSome = true := by rw [hf]; rfl
      rw [Ch.setLs_ghost hg hk hi]
      rw [Ch.findRR_some (by rw [ha]; rfl) hf] at FI
      replace PI := fun W hW => PI W 0 true hW
      generalize Ch.putR ls ⟨key, 0, true⟩ = X at *
      obtain ⟨c, rl⟩ := X
      clear ha hf hi
      go_enter Try.func60, Try.ntmps60
      go_wp2_with fail
      refine (FI _ (h.below b0)).mono ?_
      rintro e w1 ⟨a1, m1, c1, rfl, hm1, own1, b1⟩
      obtain ⟨x0, x1, f0, f1⟩ := two_box b1
      have hz := lt_of_cell x0
      have bE := b0.trans (b1.mono b0.size)
      clear FI own1 b1
      go_wp2_with fail
      refine (PI _ (h.below bE)).mono ?_
      rintro e w2 ⟨a2, m2, c2, rfl, own2, b2⟩
      replace x0 := keep_cell b2 x0
      replace x1 := keep_cell b2 x1
      replace f0 := ((bcell b2).2 w.heap.size 0 hz).trans f0
      replace f1 := ((bcell b2).2 w.heap.size 1 hz).trans f1
      have bF := bE.trans (b2.mono bE.size)
      obtain ⟨vs, own2⟩ := own2.told
      have st := (own2.store (p := w.heap.size) (o := 0) (u := .int .i64 c) (fun g hg => by have := (owns_lt own2.2.1 g hg).1; omega) (fun i x g hx hg => by have := (own2.lt i x g hx hg).1; omega)).store (p := w.heap.size) (o := 1) (u := .slice a2 m2 c2) (fun g hg => by have := (owns_lt own2.2.1 g hg).1; omega) (fun i x g hx hg => by have := (own2.lt i x g hx hg).1; omega)
      go_wp2
      exact bodyPost_ret (v := .agg #[.int .i64 c, .slice a2 m2 c2]) (by simp [results, Try.results60, go_sem, x0, x1]) rfl ⟨a2, m2, c2, rfl, (st.base bE.size).own, (bF.setCell (p := ⟨w.heap.size, 0, none⟩) (Nat.le_refl _) _).setCell (p := ⟨w.heap.size, 1, none⟩) (Nat.le_refl _) _⟩
  · rw [Ch.setLs_has hg hk hv]
    replace PI := fun W hW => PI W v false hW
    generalize Ch.putR ls ⟨key, v, false⟩ = X at *
    obtain ⟨c, rl⟩ := X
    go_enter Try.func60, Try.ntmps60
    go_wp2_with fail
    refine (PI _ (h.below b0)).mono ?_
    rintro e w2 ⟨a2, m2, c2, rfl, own2, b2⟩
    obtain ⟨x0, x1, f0, f1⟩ := two_box b2
    have hz := lt_of_cell x0
    have bF := b0.trans (b2.mono b0.size)
    obtain ⟨vs, own2⟩ := own2.told
    have hbs : w.heap.size < (w.alloc (.cells #[.int .i64 0, .slice none 0 0] 97)).heap.size := by simp
    have st := (own2.store (p := w.heap.size) (o := 0) (u := .int .i64 c) (fun g hg => by have := (owns_lt own2.2.1 g hg).1; omega) (fun i x g hx hg => by have := (own2.lt i x g hx hg).1; omega)).store (p := w.heap.size) (o := 1) (u := .slice a2 m2 c2) (fun g hg => by have := (owns_lt own2.2.1 g hg).1; omega) (fun i x g hx hg => by have := (own2.lt i x g hx hg).1; omega)
    go_wp2
    exact bodyPost_ret (v := .agg #[.int .i64 c, .slice a2 m2 c2]) (by simp [results, Try.results60, go_sem, x0, x1]) rfl ⟨a2, m2, c2, rfl, (st.base b0.size).own, (bF.setCell (p := ⟨w.heap.size, 0, none⟩) (Nat.le_refl _) _).setCell (p := ⟨w.heap.size, 1, none⟩) (Nat.le_refl _) _⟩
end Go.Proofs.Ythfanfnbjldddaa


/- SetValue: the program's and the model's. -/
namespace Go.Proofs.Ythfanfnbjldddaa
open Go.RowKit

/-- One before that was just made, as a list of one. -/
theorem new_bef {w : World} {r : Ch.Bf} {t : TypeId} {H : Nat} (hH : H = w.heap.size) : CellsAt (w.alloc (.cells #[.int .i64 r.k, .bool r.h, .int .i64 r.v] t)) (some ⟨H, 0, none⟩) (1 * 3) (bfcells [r]) := by
  subst hH
  refine ⟨rfl, fun _ => ⟨_, _, rfl, fun i hi => ?_⟩⟩
  rw [Nat.zero_add]
  have := cell_of_row (w.alloc (.cells #[.int .i64 r.k, .bool r.h, .int .i64 r.v] t)) _ i _ _ _ (heap_alloc_new w _)
  rw [this]
  simp [bfcells]
theorem OwnV.store3 {w : World} {B m : Nat} {lv : Value} {vs : List Value} {ls : List (List Ch.Row)} (h : OwnV w B lv m vs ls) {q o : Nat} (hq : q < B) (u : Value) : OwnV (w.setCell ⟨q, o, Option.none⟩ u) B lv m vs ls :=
  h.store (fun g hg => by have := (owns_lt h.2.1 g hg).1; omega) (fun i x g hx hg => by have := (h.lt i x g hx hg).1; omega)
/-- A record that is made behind leaves. -/
theorem OwnU.make {W W' : World} {B H m : Nat} {lv : Value} {vs : List Value} {ls : List (List Ch.Row)} (own : OwnV W B lv m vs ls) (k : Below W.heap.size W W') (r : Ch.Rec) (hH : H = W'.heap.size) (hB : B ≤ W.heap.size) :
    OwnU (W'.alloc (.cells #[.int .i64 r.kd, .int .i64 r.tx, .int .i64 r.ky, .bool r.hd, .int .i64 r.ol, .bool r.hs, .int .i64 r.nw] 41)) B lv m ls (.slice (some ⟨H, 0, Option.none⟩) 1 1) 1 [r] := by
  refine ⟨vs, B, W.heap.size, (own.below k).below ((Below.refl _ _).alloc (Nat.le_refl _) _), own_rec r hH (Nat.le_trans hB k.size), Nat.le_refl _, by have := k.size; simp; omega, owns_lt own.2.1, own.lt, fun g hg => ?_⟩
  simp [Value.ownBlock] at hg
  subst hg
  exact .inr (by rw [hH]; exact k.size)

set_option linter.unusedSimpArgs false in
set_option maxHeartbeats 4000000 in
theorem implSetValue_any (a : Option Addr) (n cap : Nat) (tx key : Int) (has : Bool) (v : Int) (ls : List (List Ch.Row)) (w : World) (h : LvAt w a n ls) (hs : Ch.lvSize ls ≤ 1048576) :
    Calls Try.prog 13 #[.slice a n cap, .int .i64 tx, .int .i64 key, .bool has, .int .i64 v] w fun e w' => ∃ a' m c' r p q, e = .returned (.agg #[.int .i64 (Ch.setR ls tx key has v).1, .slice a' m c', .slice r p q]) ∧ OwnU w' w.heap.size (.slice a' m c') m (Ch.setR ls tx key has v).2.1 (.slice r p q) p (Ch.setR ls tx key has v).2.2 ∧ Below w.heap.size w w' := by
  have b0 : ∀ t, Below w.heap.size w ((w.alloc (.cells #[.int .i64 0, .slice none 0 0, .slice none 0 0] 29)).alloc (.cells #[.int .i64 key, .bool has, .int .i64 v] t)) := fun t => Below.alloc (Below.alloc (Below.refl _ w) (Nat.le_refl _) _) (by simp) _
  have nb := fun t => new_bef (w := w.alloc (.cells #[.int .i64 0, .slice none 0 0, .slice none 0 0] 29)) (r := ⟨key, has, v⟩) (t := t) (H := w.heap.size + 1) (by simp)
  have FI := fun ab nb cb W hW hb hn => setFault_any a n cap tx ab nb cb ls [⟨key, has, v⟩] W hW hs hb hn
  obtain ⟨c, HC⟩ : ∃ c, Hid (Ch.setF ls tx [⟨key, has, v⟩] = c) := ⟨_, rfl⟩
  rw [HC.out] at FI
  by_cases h0 : c = 0
  · subst h0
    obtain ⟨hg, _, hk, hv, _⟩ := Ch.setF_zero HC.out
    have PI := fun W hW => putValue_any a n cap key has v ls W hW hg hk hv
    have BI := fun W hW => implBeforeOf_any a n cap key ls W hW hs
    rw [Ch.bfOf_ok (by rw [Ch.asked_of hg hk]; rfl)] at BI
    have HR : Hid (Ch.setRec 2 ls tx key has v = ⟨2, tx, key, (Ch.bf key (Ch.has ls key)).h, (Ch.bf key (Ch.has ls key)).v, has, v⟩) := rfl
    have HX1 := hid (fun c hs hc => Ch.setR_many (c := c) HC.out hs hc)
    have HX0 := hid (fun hs => Ch.setR_ok HC.out hs)
    generalize Ch.bf key (Ch.has ls key) = bb at *
    generalize Ch.setRec 2 ls tx key has v = rr at *
    generalize Ch.setR ls tx key has v = X at *
    generalize Ch.setLs ls key has v = Y at *
    obtain ⟨yc, yl⟩ := Y
    obtain ⟨bk, bh, bv⟩ := bb
    simp only at HR HX1 HX0 PI BI
    clear HC hg hk hv
    go_enter Try.func13, Try.ntmps13
    go_wp2_with fail
    refine (FI _ _ _ _ (h.below (b0 _)) (nb _) (by omega)).mono ?_
    rintro e w1 ⟨rfl, b1⟩
    obtain ⟨x0, x1, x2, f0, f1, f2⟩ := three_box (below_box b1)
    have hz := lt_of_cell x0
    have bE := (b0 _).trans (b1.mono (b0 _).size)
    clear b1 FI nb
    go_wp2_with fail
    refine (PI _ (h.below bE)).mono ?_
    rintro e w2 ⟨a2, m2, c2, rfl, own2, b2⟩
    have z2 := b2.size
    replace x0 := keep_cell b2 x0
    replace x1 := keep_cell b2 x1
    replace x2 := keep_cell b2 x2
    replace f0 := ((bcell b2).2 w.heap.size 0 hz).trans f0
    replace f1 := ((bcell b2).2 w.heap.size 1 hz).trans f1
    replace f2 := ((bcell b2).2 w.heap.size 2 hz).trans f2
    have hz2 := lt_of_cell x0
    have bF := bE.trans (b2.mono bE.size)
    clear PI b2
    by_cases hy : yc = 0
    · subst hy
      replace HX0 := hid (HX0.out rfl)
      clear HX1
      have bG := bF.alloc bF.size (.cells #[.int .i64 0, .slice a2 m2 c2] 97)
      go_wp2_with fail
      refine (BI _ (h.below bG)).mono ?_
      rintro e w3 ⟨rfl, b3⟩
      have z3 := b3.size
      simp at z3
      obtain ⟨y0, y1, _, _⟩ := two_box b3
      have b3' := below_box b3
      replace x0 := keep_cell b3' x0
      replace x1 := keep_cell b3' x1
      replace x2 := keep_cell b3' x2
      replace f0 := ((bcell b3').2 w.heap.size 0 hz2).trans f0
      replace f1 := ((bcell b3').2 w.heap.size 1 hz2).trans f1
      replace f2 := ((bcell b3').2 w.heap.size 2 hz2).trans f2
      have hz3 := lt_of_cell x0
      have hy3 := lt_of_cell y0
      have own3 := own2.below b3'
      have bH := bF.trans (b3'.mono bF.size)
      clear BI b3
      have hz4 : w.heap.size < w3.heap.size + 1 := by omega
      have hz5 : w.heap.size < w3.heap.size + 1 + 1 := by omega
      have hz6 : w.heap.size < w3.heap.size + 2 := by omega
      go_wp2
      refine bodyPost_ret (v := .agg #[.int .i64 0, .slice a2 m2 c2, .slice (some ⟨w3.heap.size + 2, 0, none⟩) 1 1]) (by simp [results, Try.results13, go_sem, x0, x1, x2, hz3, Nat.lt_succ_of_lt hz3, Nat.lt_succ_of_lt (Nat.lt_succ_of_lt hz3)]) rfl ⟨a2, m2, c2, _, 1, 1, by rw [HX0.out], ?_, ?_⟩
      · rw [HX0.out, HR.out]
        obtain ⟨vs, own3⟩ := own3.told
        have own4 := ((own3.store3 (q := w.heap.size) (o := 0) hz (.int .i64 0)).store3 (q := w.heap.size) (o := 1) hz (.slice a2 m2 c2)).store3 (q := w.heap.size) (o := 2) hz (.slice (some ⟨w3.heap.size + 1 + 1, 0, none⟩) 1 1)
        generalize hW : ((w3.setCell ⟨w.heap.size, 0, none⟩ (.int .i64 0)).setCell ⟨w.heap.size, 1, none⟩ (.slice a2 m2 c2)).setCell ⟨w.heap.size, 2, none⟩ (.slice (some ⟨w3.heap.size + 1 + 1, 0, none⟩) 1 1) = W at own4 ⊢
        have hsz : W.heap.size = w3.heap.size := by rw [← hW]; simp
        have k2 := ((Below.refl W.heap.size W).alloc (Nat.le_refl _) (.cells #[.int .i64 bk, .bool bh, .int .i64 bv] 32)).alloc (by simp) (.cells #[.int .i64 2, .int .i64 tx, .int .i64 key, .bool bh, .int .i64 bv, .bool has, .int .i64 v] 41)
        exact (OwnU.make own4 k2 ⟨2, tx, key, bh, bv, has, v⟩ (H := w3.heap.size + 2) (by simp; omega) (by omega)).base (Nat.le_of_lt hz)
      · exact Below.alloc (Below.alloc (Below.alloc (((bH.setCell (p := ⟨w.heap.size, 0, none⟩) (Nat.le_refl _) _).setCell (p := ⟨w.heap.size, 1, none⟩) (Nat.le_refl _) _).setCell (p := ⟨w.heap.size, 2, none⟩) (Nat.le_refl _) _) (by simp; omega) _) (by simp; omega) _) (by simp; omega) _
    · replace HX1 := hid (HX1.out yc rfl (by simpa using hy))
      clear HX0
      have hyc : (yc != 0) = true := by simpa using hy
      go_wp2
      refine bodyPost_ret (v := .agg #[.int .i64 yc, .slice none 0 0, .slice none 0 0]) (by simp [results, Try.results13, go_sem, x0, x1, x2, hz2]) rfl ⟨none, 0, 0, none, 0, 0, by rw [HX1.out], ?_, ?_⟩
      · rw [HX1.out]
        exact OwnU.none _ _
      · exact Below.alloc (((bF.setCell (p := ⟨w.heap.size, 0, none⟩) (Nat.le_refl _) _).setCell (p := ⟨w.heap.size, 1, none⟩) (Nat.le_refl _) _).setCell (p := ⟨w.heap.size, 2, none⟩) (Nat.le_refl _) _) (by simp; omega) _
  · have hc : (c != 0) = true := by simpa using h0
    rw [Ch.setR_code HC.out hc]
    clear HC
    go_enter Try.func13, Try.ntmps13
    go_wp2_with fail
    refine (FI _ _ _ _ (h.below (b0 _)) (nb _) (by omega)).mono ?_
    rintro e w1 ⟨rfl, b1⟩
    obtain ⟨x0, x1, x2, f0, f1, f2⟩ := three_box (below_box b1)
    have hz := lt_of_cell x0
    have bE := (b0 _).trans (b1.mono (b0 _).size)
    clear b1 FI nb
    go_wp2
    exact bodyPost_ret (v := .agg #[.int .i64 c, .slice none 0 0, .slice none 0 0]) (by simp [results, Try.results13, go_sem, x0, x1, x2, hz]) rfl ⟨none, 0, 0, none, 0, 0, rfl, OwnU.none _ _, ((bE.setCell (p := ⟨w.heap.size, 0, none⟩) (Nat.le_refl _) _).setCell (p := ⟨w.heap.size, 1, none⟩) (Nat.le_refl _) _).setCell (p := ⟨w.heap.size, 2, none⟩) (Nat.le_refl _) _⟩
end Go.Proofs.Ythfanfnbjldddaa


/- SetValue of the model. -/
namespace Go.Proofs.Ythfanfnbjldddaa
open Go.RowKit

theorem rowSeven {W : World} {g : Nat} {t : TypeId} {u0 u1 u2 u3 u4 u5 u6 : Value} (h : W.heap[g]? = some (.cells #[u0, u1, u2, u3, u4, u5, u6] t (0, 0))) :
    (W.cell? ⟨g, 0, none⟩ = some u0 ∧ W.cell? ⟨g, 1, none⟩ = some u1 ∧ W.cell? ⟨g, 2, none⟩ = some u2 ∧ W.cell? ⟨g, 3, none⟩ = some u3 ∧ W.cell? ⟨g, 4, none⟩ = some u4 ∧ W.cell? ⟨g, 5, none⟩ = some u5 ∧ W.cell? ⟨g, 6, none⟩ = some u6) ∧ ∀ o, W.frozen? ⟨g, o, none⟩ = false :=
  ⟨⟨cell_of_row _ _ _ _ _ _ h, cell_of_row _ _ _ _ _ _ h, cell_of_row _ _ _ _ _ _ h, cell_of_row _ _ _ _ _ _ h, cell_of_row _ _ _ _ _ _ h, cell_of_row _ _ _ _ _ _ h, cell_of_row _ _ _ _ _ _ h⟩, fun o => by simp [World.frozen?, h]⟩
theorem below_store7 {B : Nat} {w w' : World} (h : Below B w w') {q : Nat} (hq : B ≤ q) (v0 v1 v2 v3 v4 v5 v6 : Value) : Below B w (((((((w'.setCell ⟨q, 0, none⟩ v0).setCell ⟨q, 1, none⟩ v1).setCell ⟨q, 2, none⟩ v2).setCell ⟨q, 3, none⟩ v3).setCell ⟨q, 4, none⟩ v4).setCell ⟨q, 5, none⟩ v5).setCell ⟨q, 6, none⟩ v6) :=
  ((((((h.setCell (p := ⟨q, 0, none⟩) hq v0).setCell (p := ⟨q, 1, none⟩) hq v1).setCell (p := ⟨q, 2, none⟩) hq v2).setCell (p := ⟨q, 3, none⟩) hq v3).setCell (p := ⟨q, 4, none⟩) hq v4).setCell (p := ⟨q, 5, none⟩) hq v5).setCell (p := ⟨q, 6, none⟩) hq v6
theorem OwnV.store7 {w : World} {B m : Nat} {lv : Value} {vs : List Value} {ls : List (List Ch.Row)} (h : OwnV w B lv m vs ls) {q : Nat} (hq : q < B) (v0 v1 v2 v3 v4 v5 v6 : Value) : OwnV (((((((w.setCell ⟨q, 0, Option.none⟩ v0).setCell ⟨q, 1, Option.none⟩ v1).setCell ⟨q, 2, Option.none⟩ v2).setCell ⟨q, 3, Option.none⟩ v3).setCell ⟨q, 4, Option.none⟩ v4).setCell ⟨q, 5, Option.none⟩ v5).setCell ⟨q, 6, Option.none⟩ v6) B lv m vs ls :=
  ((((((h.store3 hq v0).store3 hq v1).store3 hq v2).store3 hq v3).store3 hq v4).store3 hq v5).store3 hq v6

set_option linter.unusedSimpArgs false in
set_option maxRecDepth 20000 in
set_option maxHeartbeats 4000000 in
theorem l8Set_any (a : Option Addr) (n cap : Nat) (tx key : Int) (has : Bool) (v : Int) (ls : List (List Ch.Row)) (w : World) (h : LvAt w a n ls) (hg : Ch.leavesFault ls = 0) (hk : Ch.inB key 0 99 = true) :
    Calls Try.prog 65 #[.slice a n cap, .int .i64 tx, .int .i64 key, .bool has, .int .i64 v] w fun e w' => ∃ a' m c', e = .returned (.tuple #[.slice a' m c', .agg #[.int .i64 2, .int .i64 tx, .int .i64 key, .bool (Ch.bf key (Ch.has ls key)).h, .int .i64 (Ch.bf key (Ch.has ls key)).v, .bool has, .int .i64 v], .int .i64 (Ch.setLs ls key has v).1]) ∧ OwnLv w' w.heap.size (.slice a' m c') m (Ch.setLs ls key has v).2 ∧ Below w.heap.size w w' := by
  have hs := Ch.good_size hg
  have ha := Ch.asked_of hg hk
  have hgl := good_leaves (key := key) h.len.out (by rw [ha]; rfl)
  have BI := fun W hW => l8Before_any a n cap key ls W hW hs hgl
  have kA : ∀ o, Below w.heap.size w (w.alloc o) := fun o => (Below.refl _ _).alloc (Nat.le_refl _) o
  generalize Ch.bf key (Ch.has ls key) = bb at *
  obtain ⟨bk, bh, bv⟩ := bb
  cases has
  · have FI := fun W hW => specFind_any a n cap key ls W hW hs hgl
    have PI := fun W hW => specPut_any a n cap ls key 0 true W hW hs hg
    have CI := fun W hW => specCopy_any a n cap ls W hW hs hgl
    have HS1 := hid (fun hf => (show Ch.setLs ls key false v = (0, Ch.put ls ⟨key, 0, true⟩) by unfold Ch.setLs; rw [if_neg Bool.false_ne_true, if_pos hf]))
    have HS0 := hid (fun hf => Ch.setLs_none (ls := ls) (key := key) (v := v) hf)
    generalize Ch.put ls ⟨key, 0, true⟩ = P at *
    generalize Ch.setLs ls key false v = X at *
    go_enter Try.func65, Try.ntmps65
    go_wp2_with fail
    refine (BI _ (h.below (kA _))).mono ?_
    rintro e w1 ⟨rfl, b1⟩
    have hR := block_below b1 (heap_alloc_new w _)
    have bE := below_box b1
    clear b1 BI
    have kB : ∀ o o', Below w1.heap.size w1 ((w1.alloc o).alloc o') := fun o o' => ((Below.refl _ _).alloc (Nat.le_refl _) o).alloc (by simp) o'
    go_wp2_with fail
    refine (FI _ (h.below (bE.trans ((kB _ _).mono bE.size)))).mono ?_
    rintro e w2 ⟨⟨rk, rv, rg⟩, ok, rfl, his, b2⟩
    have hT := block_below b2 (heap_alloc_new _ _)
    have hR2 := block_below b2 (block_below (kB _ _) hR)
    have bF := (bE.trans ((kB _ _).mono bE.size)).trans (b2.mono (Nat.le_trans bE.size (kB _ _).size))
    have hz1 := (Array.getElem?_eq_some_iff.1 hR).1
    have z2 := b2.size
    simp at z2 hT
    have kC : Below w2.heap.size w2 (w2.alloc (.cells #[.int .i64 rk, .int .i64 rv, .bool rg] 105)) := (Below.refl _ _).alloc (Nat.le_refl _) _
    replace hT := block_below kC hT
    replace hR2 := block_below kC hR2
    replace bF := bF.trans (kC.mono bF.size)
    clear kC hR b2 FI
    simp only [FindIs] at his
    rcases his with ⟨rfl, hf⟩ | ⟨rfl, hf⟩
    · have HX := hid (HS1.out (by rw [hf]; rfl))
      clear HS1 HS0 CI hf
      have hzz : w.heap.size < (w2.alloc (.cells #[.int .i64 rk, .int .i64 rv, .bool rg] 105)).heap.size := (Array.getElem?_eq_some_iff.1 hR2).1
      obtain ⟨⟨y0, y1, y2, y3, y4, y5, y6⟩, _⟩ := rowSeven hT
      go_wp2
      go_region_with (go_at_call 110; refine (PI _ (h.below bF.drew)).mono ?_; rintro e w3 ⟨a3, m3, c3, rfl, own3, b3⟩; have b4 : Below (w2.alloc (.cells #[.int .i64 rk, .int .i64 rv, .bool rg] 105)).heap.size (w2.alloc (.cells #[.int .i64 rk, .int .i64 rv, .bool rg] 105)) w3 := ⟨b3.os, b3.tape, b3.output, b3.size, b3.block⟩; have hR3 := block_below b4 hR2; have y0 := keep_cell b4 y0; have y1 := keep_cell b4 y1; have y2 := keep_cell b4 y2; have y3 := keep_cell b4 y3; have y4 := keep_cell b4 y4; have y5 := keep_cell b4 y5; have y6 := keep_cell b4 y6; obtain ⟨⟨x0, x1, x2, x3, x4, x5, x6⟩, fx⟩ := rowSeven hR3; have f0 := fx 0; have f1 := fx 1; have f2 := fx 2; have f3 := fx 3; have f4 := fx 4; have f5 := fx 5; have f6 := fx 6; clear fx)
      all_goals
        have bG := bF.trans (b4.mono bF.size)
        obtain ⟨vs, own3⟩ := own3.told
        have own4 := (own3.store7 (q := w.heap.size) hzz (.int .i64 2) (.int .i64 tx) (.int .i64 key) (.bool bh) (.int .i64 bv) (.bool false) (.int .i64 v)).base (B' := w.heap.size) (Nat.le_of_lt hzz)
        have bH := below_store7 bG (q := w.heap.size) (Nat.le_refl _) (.int .i64 2) (.int .i64 tx) (.int .i64 key) (.bool bh) (.int .i64 bv) (.bool false) (.int .i64 v)
        go_wp2
        exact bodyPost_ret (v := .tuple #[.slice a3 m3 c3, .agg #[.int .i64 2, .int .i64 tx, .int .i64 key, .bool bh, .int .i64 bv, .bool false, .int .i64 v], .int .i64 0]) (by simp [results, Try.results65, go_sem, x0, x1, x2, x3, x4, x5, x6]) rfl ⟨a3, m3, c3, by rw [HX.out], by rw [HX.out]; exact own4.own, bH⟩
    · have HX := hid (HS0.out hf)
      clear HS1 HS0 PI hf
      have hzz : w.heap.size < (w2.alloc (.cells #[.int .i64 rk, .int .i64 rv, .bool rg] 105)).heap.size := (Array.getElem?_eq_some_iff.1 hR2).1
      obtain ⟨⟨y0, y1, y2, y3, y4, y5, y6⟩, _⟩ := rowSeven hT
      go_wp2
      go_region_with (go_at_call 112; refine (CI _ (h.below bF.drew)).mono ?_; rintro e w3 ⟨a3, c3, rfl, own3, b3⟩; have b4 : Below (w2.alloc (.cells #[.int .i64 rk, .int .i64 rv, .bool rg] 105)).heap.size (w2.alloc (.cells #[.int .i64 rk, .int .i64 rv, .bool rg] 105)) w3 := ⟨b3.os, b3.tape, b3.output, b3.size, b3.block⟩; have hR3 := block_below b4 hR2; have y0 := keep_cell b4 y0; have y1 := keep_cell b4 y1; have y2 := keep_cell b4 y2; have y3 := keep_cell b4 y3; have y4 := keep_cell b4 y4; have y5 := keep_cell b4 y5; have y6 := keep_cell b4 y6; obtain ⟨⟨x0, x1, x2, x3, x4, x5, x6⟩, fx⟩ := rowSeven hR3; have f0 := fx 0; have f1 := fx 1; have f2 := fx 2; have f3 := fx 3; have f4 := fx 4; have f5 := fx 5; have f6 := fx 6; clear fx)
      all_goals
        have bG := bF.trans (b4.mono bF.size)
        obtain ⟨vs, own3⟩ := own3.told
        have own4 := (own3.store7 (q := w.heap.size) hzz (.int .i64 2) (.int .i64 tx) (.int .i64 key) (.bool bh) (.int .i64 bv) (.bool false) (.int .i64 v)).base (B' := w.heap.size) (Nat.le_of_lt hzz)
        have bH := below_store7 bG (q := w.heap.size) (Nat.le_refl _) (.int .i64 2) (.int .i64 tx) (.int .i64 key) (.bool bh) (.int .i64 bv) (.bool false) (.int .i64 v)
        go_wp2
        exact bodyPost_ret (v := .tuple #[.slice a3 n c3, .agg #[.int .i64 2, .int .i64 tx, .int .i64 key, .bool bh, .int .i64 bv, .bool false, .int .i64 v], .int .i64 0]) (by simp [results, Try.results65, go_sem, x0, x1, x2, x3, x4, x5, x6]) rfl ⟨a3, n, c3, by rw [HX.out], by rw [HX.out]; exact own4.own, bH⟩
  · have PI := fun W hW => specPut_any a n cap ls key v false W hW hs hg
    have HS : Hid (Ch.setLs ls key true v = if 60 < (Ch.put ls ⟨key, v, false⟩).length then (2, []) else (0, Ch.put ls ⟨key, v, false⟩)) := rfl
    generalize Ch.put ls ⟨key, v, false⟩ = P at *
    generalize Ch.setLs ls key true v = X at *
    go_enter Try.func65, Try.ntmps65
    go_wp2_with fail
    refine (BI _ (h.below (kA _))).mono ?_
    rintro e w1 ⟨rfl, b1⟩
    have hR := block_below b1 (heap_alloc_new w _)
    have bE := below_box b1
    clear b1 BI
    have kB : ∀ o o', Below w1.heap.size w1 ((w1.alloc o).alloc o') := fun o o' => ((Below.refl _ _).alloc (Nat.le_refl _) o).alloc (by simp) o'
    go_wp2_with fail
    refine (PI _ (h.below (bE.trans ((kB _ _).mono bE.size)))).mono ?_
    rintro e w2 ⟨a2, m2, c2, rfl, own2, b2⟩
    have hT := block_below b2 (heap_alloc_new _ _)
    have hR2 := block_below b2 (block_below (kB _ _) hR)
    have bF := (bE.trans ((kB _ _).mono bE.size)).trans (b2.mono (Nat.le_trans bE.size (kB _ _).size))
    have hz1 := (Array.getElem?_eq_some_iff.1 hR).1
    have z2 := b2.size
    simp at z2 hT
    obtain ⟨⟨x0, x1, x2, x3, x4, x5, x6⟩, fx⟩ := rowSeven hR2
    obtain ⟨⟨y0, y1, y2, y3, y4, y5, y6⟩, fy⟩ := rowSeven hT
    have f0 := fx 0
    have f1 := fx 1
    have f2 := fx 2
    have f3 := fx 3
    have f4 := fx 4
    have f5 := fx 5
    have f6 := fx 6
    clear fx fy hT hR2 hR PI
    obtain ⟨vs, own2⟩ := own2.told
    have HM : Hid (m2 = P.length) := own2.1.symm
    have own3 := (own2.store7 (q := w.heap.size) (by simp; omega) (.int .i64 2) (.int .i64 tx) (.int .i64 key) (.bool bh) (.int .i64 bv) (.bool true) (.int .i64 v)).base (B' := w.heap.size) (by simp; omega)
    have bG := below_store7 bF (q := w.heap.size) (Nat.le_refl _) (.int .i64 2) (.int .i64 tx) (.int .i64 key) (.bool bh) (.int .i64 bv) (.bool true) (.int .i64 v)
    by_cases h60 : 60 < m2
    · rw [if_pos (by have := HM.out; omega)] at HS
      go_wp2
      go_region
      all_goals
        go_wp2
        exact bodyPost_ret (v := .tuple #[.slice none 0 0, .agg #[.int .i64 2, .int .i64 tx, .int .i64 key, .bool bh, .int .i64 bv, .bool true, .int .i64 v], .int .i64 2]) (by simp [results, Try.results65, go_sem, x0, x1, x2, x3, x4, x5, x6]) rfl ⟨none, 0, 0, by rw [HS.out], by rw [HS.out]; exact OwnLv.nil _ _, bG.drew⟩
    · rw [if_neg (by have := HM.out; omega)] at HS
      go_wp2
      go_region
      all_goals
        go_wp2
        exact bodyPost_ret (v := .tuple #[.slice a2 m2 c2, .agg #[.int .i64 2, .int .i64 tx, .int .i64 key, .bool bh, .int .i64 bv, .bool true, .int .i64 v], .int .i64 0]) (by simp [results, Try.results65, go_sem, x0, x1, x2, x3, x4, x5, x6]) rfl ⟨a2, m2, c2, by rw [HS.out], by rw [HS.out]; exact (own3.below (Below.refl _ _).drew).own, bG.drew⟩

theorem Ch.setF_lv {ls : List (List Ch.Row)} {tx : Int} {bs : List Ch.Bf} {c : Int} (h : Ch.leavesFault ls = c) (hc : (c != 0) = true) : Ch.setF ls tx bs = c := by rw [Ch.setF, h, if_pos hc]
theorem Ch.setF_tx {ls : List (List Ch.Row)} {tx : Int} {bs : List Ch.Bf} (h : Ch.leavesFault ls = 0) (ht : Ch.inB tx 1 999 = false) : Ch.setF ls tx bs = 3 := by rw [Ch.setF, h, ht]; rfl
theorem Ch.setF_bf {ls : List (List Ch.Row)} {tx : Int} {b : Ch.Bf} (h : Ch.leavesFault ls = 0) (ht : Ch.inB tx 1 999 = true) : Ch.setF ls tx [b] = b.fault := by rw [Ch.setF, h, ht, Ch.bef_single]; rfl

set_option linter.unusedSimpArgs false in
set_option maxRecDepth 20000 in
set_option maxHeartbeats 4000000 in
theorem specSetValue_any (a : Option Addr) (n cap : Nat) (tx key : Int) (has : Bool) (v : Int) (ls : List (List Ch.Row)) (w : World) (h : LvAt w a n ls) (hs : Ch.lvSize ls ≤ 1048576) :
    Calls Try.prog 14 #[.slice a n cap, .int .i64 tx, .int .i64 key, .bool has, .int .i64 v] w fun e w' => ∃ a' m c' r p q, e = .returned (.agg #[.int .i64 (Ch.setR ls tx key has v).1, .slice a' m c', .slice r p q]) ∧ OwnU w' w.heap.size (.slice a' m c') m (Ch.setR ls tx key has v).2.1 (.slice r p q) p (Ch.setR ls tx key has v).2.2 ∧ Below w.heap.size w w' := by
  have b0 : Below w.heap.size w (w.alloc (.cells #[.int .i64 0, .slice none 0 0, .slice none 0 0] 29)) := (Below.refl _ _).alloc (Nat.le_refl _) _
  have LI := fun W hW => specLv_any a n cap ls W hW hs
  have IT := fun W => l2Txn_any tx W
  have IK := fun W => key_any key W
  have IV := fun W => value_any v W
  obtain ⟨c, HC⟩ : ∃ c, Hid (Ch.leavesFault ls = c) := ⟨_, rfl⟩
  rw [HC.out] at LI
  by_cases h0 : c = 0
  rotate_left
  · have hc : (c != 0) = true := by simpa using h0
    have HX := hid (Ch.setR_code (tx := tx) (key := key) (has := has) (v := v) (Ch.setF_lv HC.out hc) hc)
    generalize Ch.setR ls tx key has v = X at *
    go_enter Try.func14, Try.ntmps14
    go_wp2_with fail
    refine (LI _ (h.below b0)).mono ?_
    rintro e w1 ⟨rfl, b1⟩
    obtain ⟨x0, x1, x2, f0, f1, f2⟩ := three_box b1
    have hz := lt_of_cell x0
    have bE := b0.trans (b1.mono b0.size)
    clear b1 LI
    go_wp2
    exact bodyPost_ret (v := .agg #[.int .i64 c, .slice none 0 0, .slice none 0 0]) (by simp [results, Try.results14, go_sem, x0, x1, x2, hz]) rfl ⟨none, 0, 0, none, 0, 0, by rw [HX.out], by rw [HX.out]; exact OwnU.none _ _, ((bE.setCell (p := ⟨w.heap.size, 0, none⟩) (Nat.le_refl _) _).setCell (p := ⟨w.heap.size, 1, none⟩) (Nat.le_refl _) _).setCell (p := ⟨w.heap.size, 2, none⟩) (Nat.le_refl _) _⟩
  subst h0
  cases ht : Ch.inB tx 1 999
  · have HX := hid (Ch.setR_code (key := key) (has := has) (v := v) (Ch.setF_tx (bs := [⟨key, has, v⟩]) HC.out ht) rfl)
    generalize Ch.setR ls tx key has v = X at *
    rw [ht] at IT
    go_enter Try.func14, Try.ntmps14
    go_wp2_with fail
    refine (LI _ (h.below b0)).mono ?_
    rintro e w1 ⟨rfl, b1⟩
    obtain ⟨x0, x1, x2, f0, f1, f2⟩ := three_box b1
    have hz := lt_of_cell x0
    have bE := b0.trans (b1.mono b0.size)
    clear b1 LI
    go_wp2_with fail
    refine (IT _).mono ?_
    rintro e w' ⟨rfl, rfl⟩
    go_wp2
    exact bodyPost_ret (v := .agg #[.int .i64 3, .slice none 0 0, .slice none 0 0]) (by simp [results, Try.results14, go_sem, x0, x1, x2, hz]) rfl ⟨none, 0, 0, none, 0, 0, by rw [HX.out], by rw [HX.out]; exact OwnU.none _ _, ((bE.setCell (p := ⟨w.heap.size, 0, none⟩) (Nat.le_refl _) _).setCell (p := ⟨w.heap.size, 1, none⟩) (Nat.le_refl _) _).setCell (p := ⟨w.heap.size, 2, none⟩) (Nat.le_refl _) _⟩
  cases hk : Ch.inB key 0 99
  · have HX := hid (Ch.setR_code (key := key) (has := has) (v := v) ((Ch.setF_bf (b := ⟨key, has, v⟩) HC.out ht).trans (Ch.bf_range (by rw [hk]; rfl))) rfl)
    generalize Ch.setR ls tx key has v = X at *
    rw [ht] at IT
    rw [hk] at IK
    go_enter Try.func14, Try.ntmps14
    go_wp2_with fail
    refine (LI _ (h.below b0)).mono ?_
    rintro e w1 ⟨rfl, b1⟩
    obtain ⟨x0, x1, x2, f0, f1, f2⟩ := three_box b1
    have hz := lt_of_cell x0
    have bE := b0.trans (b1.mono b0.size)
    clear b1 LI
    go_wp2_with fail
    refine (IT _).mono ?_
    rintro e w' ⟨rfl, rfl⟩
    go_wp2_with fail
    refine (IK _).mono ?_
    rintro e w' ⟨rfl, rfl⟩
    go_wp2
    exact bodyPost_ret (v := .agg #[.int .i64 3, .slice none 0 0, .slice none 0 0]) (by simp [results, Try.results14, go_sem, x0, x1, x2, hz]) rfl ⟨none, 0, 0, none, 0, 0, by rw [HX.out], by rw [HX.out]; exact OwnU.none _ _, ((bE.setCell (p := ⟨w.heap.size, 0, none⟩) (Nat.le_refl _) _).setCell (p := ⟨w.heap.size, 1, none⟩) (Nat.le_refl _) _).setCell (p := ⟨w.heap.size, 2, none⟩) (Nat.le_refl _) _⟩
  cases hv : Ch.inB v 0 9999
  · have HX := hid (Ch.setR_code (key := key) (has := has) (v := v) ((Ch.setF_bf (b := ⟨key, has, v⟩) HC.out ht).trans (Ch.bf_range (by rw [hk, hv]; rfl))) rfl)
    generalize Ch.setR ls tx key has v = X at *
    rw [ht] at IT
    rw [hk] at IK
    rw [hv] at IV
    go_enter Try.func14, Try.ntmps14
    go_wp2_with fail
    refine (LI _ (h.below b0)).mono ?_
    rintro e w1 ⟨rfl, b1⟩
    obtain ⟨x0, x1, x2, f0, f1, f2⟩ := three_box b1
    have hz := lt_of_cell x0
    have bE := b0.trans (b1.mono b0.size)
    clear b1 LI
    go_wp2_with fail
    refine (IT _).mono ?_
    rintro e w' ⟨rfl, rfl⟩
    go_wp2_with fail
    refine (IK _).mono ?_
    rintro e w' ⟨rfl, rfl⟩
    go_wp2_with fail
    refine (IV _).mono ?_
    rintro e w' ⟨rfl, rfl⟩
    go_wp2
    exact bodyPost_ret (v := .agg #[.int .i64 3, .slice none 0 0, .slice none 0 0]) (by simp [results, Try.results14, go_sem, x0, x1, x2, hz]) rfl ⟨none, 0, 0, none, 0, 0, by rw [HX.out], by rw [HX.out]; exact OwnU.none _ _, ((bE.setCell (p := ⟨w.heap.size, 0, none⟩) (Nat.le_refl _) _).setCell (p := ⟨w.heap.size, 1, none⟩) (Nat.le_refl _) _).setCell (p := ⟨w.heap.size, 2, none⟩) (Nat.le_refl _) _⟩
  cases hf : (!has && v != 0)
  rotate_left
  · have HX := hid (Ch.setR_code (key := key) (has := has) (v := v) ((Ch.setF_bf (b := ⟨key, has, v⟩) HC.out ht).trans (Ch.bf_form (by rw [hk, hv]; rfl) hf)) rfl)
    obtain ⟨rfl, hv0⟩ : has = false ∧ (v != 0) = true := by cases has <;> simp_all
    clear hf
    generalize Ch.setR ls tx key false v = X at *
    rw [ht] at IT
    rw [hk] at IK
    rw [hv] at IV
    go_enter Try.func14, Try.ntmps14
    go_wp2_with fail
    refine (LI _ (h.below b0)).mono ?_
    rintro e w1 ⟨rfl, b1⟩
    obtain ⟨x0, x1, x2, f0, f1, f2⟩ := three_box b1
    have hz := lt_of_cell x0
    have bE := b0.trans (b1.mono b0.size)
    clear b1 LI
    go_wp2_with fail
    refine (IT _).mono ?_
    rintro e w' ⟨rfl, rfl⟩
    go_wp2_with fail
    refine (IK _).mono ?_
    rintro e w' ⟨rfl, rfl⟩
    go_wp2_with fail
    refine (IV _).mono ?_
    rintro e w' ⟨rfl, rfl⟩
    go_wp2
    exact bodyPost_ret (v := .agg #[.int .i64 1, .slice none 0 0, .slice none 0 0]) (by simp [results, Try.results14, go_sem, x0, x1, x2, hz]) rfl ⟨none, 0, 0, none, 0, 0, by rw [HX.out], by rw [HX.out]; exact OwnU.none _ _, ((bE.setCell (p := ⟨w.heap.size, 0, none⟩) (Nat.le_refl _) _).setCell (p := ⟨w.heap.size, 1, none⟩) (Nat.le_refl _) _).setCell (p := ⟨w.heap.size, 2, none⟩) (Nat.le_refl _) _⟩
  have HF := hid ((Ch.setF_bf (b := ⟨key, has, v⟩) HC.out ht).trans (Ch.bf_fine (by rw [hk, hv]; rfl) hf))
  have SI := fun W hW => l8Set_any a n cap tx key has v ls W hW HC.out hk
  have HX1 := hid (fun c hs hc => Ch.setR_many (c := c) HF.out hs hc)
  have HX0 := hid (fun hs => Ch.setR_ok HF.out hs)
  have HR : Hid (Ch.setRec 2 ls tx key has v = ⟨2, tx, key, (Ch.bf key (Ch.has ls key)).h, (Ch.bf key (Ch.has ls key)).v, has, v⟩) := rfl
  rw [ht] at IT
  rw [hk] at IK
  rw [hv] at IV
  generalize Ch.bf key (Ch.has ls key) = bb at *
  generalize Ch.setRec 2 ls tx key has v = rr at *
  generalize Ch.setR ls tx key has v = X at *
  generalize Ch.setLs ls key has v = Y at *
  obtain ⟨yc, yl⟩ := Y
  obtain ⟨bk, bh, bv⟩ := bb
  simp only at HR HX1 HX0 SI
  clear HF HC ht hk hv
  by_cases hy : yc = 0
  · subst hy
    replace HX0 := hid (HX0.out rfl)
    clear HX1
    have hcase : has = true ∨ (has = false ∧ (v != 0) = false) := by cases has <;> simp_all
    rcases hcase with rfl | ⟨rfl, hv0⟩
    · go_enter Try.func14, Try.ntmps14
      go_wp2_with fail
      refine (LI _ (h.below b0)).mono ?_
      rintro e w1 ⟨rfl, b1⟩
      obtain ⟨x0, x1, x2, f0, f1, f2⟩ := three_box b1
      have hz := lt_of_cell x0
      have bE := b0.trans (b1.mono b0.size)
      clear b1 LI
      go_wp2_with fail
      refine (IT _).mono ?_
      rintro e w' ⟨rfl, rfl⟩
      go_wp2_with fail
      refine (IK _).mono ?_
      rintro e w' ⟨rfl, rfl⟩
      go_wp2_with fail
      refine (IV _).mono ?_
      rintro e w' ⟨rfl, rfl⟩
      go_wp2_with fail
      refine (SI _ (h.below bE)).mono ?_
      rintro e w2 ⟨a2, m2, c2, rfl, own2, b2⟩
      replace x0 := keep_cell b2 x0
      replace x1 := keep_cell b2 x1
      replace x2 := keep_cell b2 x2
      replace f0 := ((bcell b2).2 w.heap.size 0 hz).trans f0
      replace f1 := ((bcell b2).2 w.heap.size 1 hz).trans f1
      replace f2 := ((bcell b2).2 w.heap.size 2 hz).trans f2
      have hz2 := lt_of_cell x0
      have z2 := b2.size
      have bF := bE.trans (b2.mono bE.size)
      have hz4 : w.heap.size < w2.heap.size + 1 := by omega
      have hz5 : w.heap.size < w2.heap.size + 1 + 1 := by omega
      clear SI b2
      go_wp2
      refine bodyPost_ret (v := .agg #[.int .i64 0, .slice a2 m2 c2, .slice (some ⟨w2.heap.size + 1, 0, none⟩) 1 1]) (by simp [results, Try.results14, go_sem, x0, x1, x2, hz2, hz4]) rfl ⟨a2, m2, c2, _, 1, 1, by rw [HX0.out], ?_, ?_⟩
      · rw [HX0.out, HR.out]
        obtain ⟨vs, own3⟩ := own2.told
        have own4 := ((own3.store3 (q := w.heap.size) (o := 0) hz (.int .i64 0)).store3 (q := w.heap.size) (o := 1) hz (.slice a2 m2 c2)).store3 (q := w.heap.size) (o := 2) hz (.slice (some ⟨w2.heap.size + 1, 0, none⟩) 1 1)
        generalize hW : ((w2.setCell ⟨w.heap.size, 0, none⟩ (.int .i64 0)).setCell ⟨w.heap.size, 1, none⟩ (.slice a2 m2 c2)).setCell ⟨w.heap.size, 2, none⟩ (.slice (some ⟨w2.heap.size + 1, 0, none⟩) 1 1) = W at own4 ⊢
        have hsz : W.heap.size = w2.heap.size := by rw [← hW]; simp
        have k2 := (Below.refl W.heap.size W).alloc (Nat.le_refl _) (.cells #[.int .i64 2, .int .i64 tx, .int .i64 key, .bool bh, .int .i64 bv, .bool true, .int .i64 v] 41)
        exact (OwnU.make own4 k2 ⟨2, tx, key, bh, bv, true, v⟩ (H := w2.heap.size + 1) (by simp; omega) (by omega)).base (Nat.le_of_lt hz)
      · exact Below.alloc (Below.alloc (((bF.setCell (p := ⟨w.heap.size, 0, none⟩) (Nat.le_refl _) _).setCell (p := ⟨w.heap.size, 1, none⟩) (Nat.le_refl _) _).setCell (p := ⟨w.heap.size, 2, none⟩) (Nat.le_refl _) _) (by simp; omega) _) (by simp; omega) _
    · go_enter Try.func14, Try.ntmps14
      go_wp2_with fail
      refine (LI _ (h.below b0)).mono ?_
      rintro e w1 ⟨rfl, b1⟩
      obtain ⟨x0, x1, x2, f0, f1, f2⟩ := three_box b1
      have hz := lt_of_cell x0
      have bE := b0.trans (b1.mono b0.size)
      clear b1 LI
      go_wp2_with fail
      refine (IT _).mono ?_
      rintro e w' ⟨rfl, rfl⟩
      go_wp2_with fail
      refine (IK _).mono ?_
      rintro e w' ⟨rfl, rfl⟩
      go_wp2_with fail
      refine (IV _).mono ?_
      rintro e w' ⟨rfl, rfl⟩
      go_wp2_with fail
      refine (SI _ (h.below bE)).mono ?_
      rintro e w2 ⟨a2, m2, c2, rfl, own2, b2⟩
      replace x0 := keep_cell b2 x0
      replace x1 := keep_cell b2 x1
      replace x2 := keep_cell b2 x2
      replace f0 := ((bcell b2).2 w.heap.size 0 hz).trans f0
      replace f1 := ((bcell b2).2 w.heap.size 1 hz).trans f1
      replace f2 := ((bcell b2).2 w.heap.size 2 hz).trans f2
      have hz2 := lt_of_cell x0
      have z2 := b2.size
      have bF := bE.trans (b2.mono bE.size)
      have hz4 : w.heap.size < w2.heap.size + 1 := by omega
      have hz5 : w.heap.size < w2.heap.size + 1 + 1 := by omega
      clear SI b2
      go_wp2
      refine bodyPost_ret (v := .agg #[.int .i64 0, .slice a2 m2 c2, .slice (some ⟨w2.heap.size + 1, 0, none⟩) 1 1]) (by simp [results, Try.results14, go_sem, x0, x1, x2, hz2, hz4]) rfl ⟨a2, m2, c2, _, 1, 1, by rw [HX0.out], ?_, ?_⟩
      · rw [HX0.out, HR.out]
        obtain ⟨vs, own3⟩ := own2.told
        have own4 := ((own3.store3 (q := w.heap.size) (o := 0) hz (.int .i64 0)).store3 (q := w.heap.size) (o := 1) hz (.slice a2 m2 c2)).store3 (q := w.heap.size) (o := 2) hz (.slice (some ⟨w2.heap.size + 1, 0, none⟩) 1 1)
        generalize hW : ((w2.setCell ⟨w.heap.size, 0, none⟩ (.int .i64 0)).setCell ⟨w.heap.size, 1, none⟩ (.slice a2 m2 c2)).setCell ⟨w.heap.size, 2, none⟩ (.slice (some ⟨w2.heap.size + 1, 0, none⟩) 1 1) = W at own4 ⊢
        have hsz : W.heap.size = w2.heap.size := by rw [← hW]; simp
        have k2 := (Below.refl W.heap.size W).alloc (Nat.le_refl _) (.cells #[.int .i64 2, .int .i64 tx, .int .i64 key, .bool bh, .int .i64 bv, .bool false, .int .i64 v] 41)
        exact (OwnU.make own4 k2 ⟨2, tx, key, bh, bv, false, v⟩ (H := w2.heap.size + 1) (by simp; omega) (by omega)).base (Nat.le_of_lt hz)
      · exact Below.alloc (Below.alloc (((bF.setCell (p := ⟨w.heap.size, 0, none⟩) (Nat.le_refl _) _).setCell (p := ⟨w.heap.size, 1, none⟩) (Nat.le_refl _) _).setCell (p := ⟨w.heap.size, 2, none⟩) (Nat.le_refl _) _) (by simp; omega) _) (by simp; omega) _
  · replace HX1 := hid (HX1.out yc rfl (by simpa using hy))
    clear HX0
    have hyc : (yc != 0) = true := by simpa using hy
    have hcase : has = true ∨ (has = false ∧ (v != 0) = false) := by cases has <;> simp_all
    rcases hcase with rfl | ⟨rfl, hv0⟩
    · go_enter Try.func14, Try.ntmps14
      go_wp2_with fail
      refine (LI _ (h.below b0)).mono ?_
      rintro e w1 ⟨rfl, b1⟩
      obtain ⟨x0, x1, x2, f0, f1, f2⟩ := three_box b1
      have hz := lt_of_cell x0
      have bE := b0.trans (b1.mono b0.size)
      clear b1 LI
      go_wp2_with fail
      refine (IT _).mono ?_
      rintro e w' ⟨rfl, rfl⟩
      go_wp2_with fail
      refine (IK _).mono ?_
      rintro e w' ⟨rfl, rfl⟩
      go_wp2_with fail
      refine (IV _).mono ?_
      rintro e w' ⟨rfl, rfl⟩
      go_wp2_with fail
      refine (SI _ (h.below bE)).mono ?_
      rintro e w2 ⟨a2, m2, c2, rfl, own2, b2⟩
      replace x0 := keep_cell b2 x0
      replace x1 := keep_cell b2 x1
      replace x2 := keep_cell b2 x2
      replace f0 := ((bcell b2).2 w.heap.size 0 hz).trans f0
      replace f1 := ((bcell b2).2 w.heap.size 1 hz).trans f1
      replace f2 := ((bcell b2).2 w.heap.size 2 hz).trans f2
      have hz2 := lt_of_cell x0
      have bF := bE.trans (b2.mono bE.size)
      clear SI b2 own2
      go_wp2
      refine bodyPost_ret (v := .agg #[.int .i64 yc, .slice none 0 0, .slice none 0 0]) (by simp [results, Try.results14, go_sem, x0, x1, x2, hz2]) rfl ⟨none, 0, 0, none, 0, 0, by rw [HX1.out], ?_, ?_⟩
      · rw [HX1.out]
        exact OwnU.none _ _
      · exact Below.alloc (((bF.setCell (p := ⟨w.heap.size, 0, none⟩) (Nat.le_refl _) _).setCell (p := ⟨w.heap.size, 1, none⟩) (Nat.le_refl _) _).setCell (p := ⟨w.heap.size, 2, none⟩) (Nat.le_refl _) _) (by simp; omega) _
    · go_enter Try.func14, Try.ntmps14
      go_wp2_with fail
      refine (LI _ (h.below b0)).mono ?_
      rintro e w1 ⟨rfl, b1⟩
      obtain ⟨x0, x1, x2, f0, f1, f2⟩ := three_box b1
      have hz := lt_of_cell x0
      have bE := b0.trans (b1.mono b0.size)
      clear b1 LI
      go_wp2_with fail
      refine (IT _).mono ?_
      rintro e w' ⟨rfl, rfl⟩
      go_wp2_with fail
      refine (IK _).mono ?_
      rintro e w' ⟨rfl, rfl⟩
      go_wp2_with fail
      refine (IV _).mono ?_
      rintro e w' ⟨rfl, rfl⟩
      go_wp2_with fail
      refine (SI _ (h.below bE)).mono ?_
      rintro e w2 ⟨a2, m2, c2, rfl, own2, b2⟩
      replace x0 := keep_cell b2 x0
      replace x1 := keep_cell b2 x1
      replace x2 := keep_cell b2 x2
      replace f0 := ((bcell b2).2 w.heap.size 0 hz).trans f0
      replace f1 := ((bcell b2).2 w.heap.size 1 hz).trans f1
      replace f2 := ((bcell b2).2 w.heap.size 2 hz).trans f2
      have hz2 := lt_of_cell x0
      have bF := bE.trans (b2.mono bE.size)
      clear SI b2 own2
      go_wp2
      refine bodyPost_ret (v := .agg #[.int .i64 yc, .slice none 0 0, .slice none 0 0]) (by simp [results, Try.results14, go_sem, x0, x1, x2, hz2]) rfl ⟨none, 0, 0, none, 0, 0, by rw [HX1.out], ?_, ?_⟩
      · rw [HX1.out]
        exact OwnU.none _ _
      · exact Below.alloc (((bF.setCell (p := ⟨w.heap.size, 0, none⟩) (Nat.le_refl _) _).setCell (p := ⟨w.heap.size, 1, none⟩) (Nat.le_refl _) _).setCell (p := ⟨w.heap.size, 2, none⟩) (Nat.le_refl _) _) (by simp; omega) _
end Go.Proofs.Ythfanfnbjldddaa


/- One step back, of the program. -/
namespace Go.Proofs.Ythfanfnbjldddaa
open Go.RowKit

theorem Try.info41 : (Try.prog.info? 41).map (fun i => (i.zero, i.size, i.bytes)) = some (some (.agg #[.int .i64 0, .int .i64 0, .int .i64 0, .bool false, .int .i64 0, .bool false, .int .i64 0]), 7, 56) := by kernel_rfl
theorem rc7_one (rs : List Ch.Rec) : ∀ u ∈ rc7 rs, u.oneCell' = true := by
  intro u hu
  unfold rc7 at hu
  obtain ⟨r, _, hr⟩ := List.mem_flatMap.1 hu
  simp only [c7, List.mem_cons, List.not_mem_nil, or_false] at hr
  rcases hr with rfl | rfl | rfl | rfl | rfl | rfl | rfl <;> rfl
/-- A record that was just made, as a list of one. -/
theorem new_rec {w : World} {r : Ch.Rec} {t : TypeId} {H : Nat} (hH : H = w.heap.size) : CellsAt (w.alloc (.cells #[.int .i64 r.kd, .int .i64 r.tx, .int .i64 r.ky, .bool r.hd, .int .i64 r.ol, .bool r.hs, .int .i64 r.nw] t)) (some ⟨H, 0, none⟩) (1 * 7) (rc7 [r]) := by
  subst hH
  refine ⟨rfl, fun _ => ⟨_, _, rfl, fun i hi => ?_⟩⟩
  rw [Nat.zero_add]
  have := cell_of_row (w.alloc (.cells #[.int .i64 r.kd, .int .i64 r.tx, .int .i64 r.ky, .bool r.hd, .int .i64 r.ol, .bool r.hs, .int .i64 r.nw] t)) _ i _ _ _ (heap_alloc_new w _)
  rw [this]
  simp [rc7, c7]
/-- One record appended to records of one's own. -/
theorem run_appRc {w : World} {B : Nat} {v : Value} {n ty : Nat} {rs : List Ch.Rec} {g c : Nat} {r : Ch.Rec} (hown : w.ownsRow B 41 7 v n (rc7 rs)) (hc : CellsAt w (some ⟨g, 0, none⟩) (1 * 7) (rc7 [r])) (hn : n ≤ 1048576) (hbase : B ≤ w.heap.size) :
    ∃ a' c' w', (Builtin.append_ #[27, 27] ty #[v, .slice (some ⟨g, 0, none⟩) 1 c]).run Try.prog w = .ok (.slice a' (n + 1) c') w' ∧ w'.ownsRow B 41 7 (.slice a' (n + 1) c') (n + 1) (rc7 (rs ++ [r])) ∧ w.grownBy w' v.ownBlock ∧
      ∀ g, (Value.slice a' (n + 1) c').ownBlock = some g → v.ownBlock = some g ∨ w.heap.size ≤ g := by
  obtain ⟨i0, hi, hz0, hz1, hz2⟩ := info_parts Try.info41
  obtain ⟨v', w', hr, h2, h3, _, h5⟩ := run_append_own_at (P := Try.prog) w B 27 ty 41 i0 _ 7 56 Try.underlying27 hi hz0 hz1 hz2 rfl (by omega) v n (rc7 rs) hown ⟨g, 0, none⟩ 1 c (rc7 [r]) hc.1 (fun j u hj => by
      have hjl : j < (rc7 [r]).length := (List.getElem?_eq_some_iff.1 hj).1
      have hl := hc.1
      obtain ⟨b, off, ha, hcc⟩ := hc.2 (by omega)
      simp only [Option.some.injEq, Addr.mk.injEq, and_true] at ha
      obtain ⟨rfl, rfl⟩ := ha
      have e : (⟨g, 0, none⟩ : Addr).add j = ⟨g, 0 + j, none⟩ := by
        unfold Addr.add
        split
        · next h0 => subst h0; rfl
        · rfl
      rw [e, hcc j (by omega), hj]) (rc7_one [r]) (by unfold maxLen; omega) (by omega) hbase
  obtain ⟨a', c', rfl⟩ := owns_shape h2
  refine ⟨a', c', w', hr, by rw [rc7_snoc]; simpa [rc7] using h2, h3, fun g hg => ?_⟩
  rcases h5 with h5 | h5
  · exact .inl (by rw [← h5]; exact hg)
  · right
    rw [h5] at hg
    simp at hg
    omega
theorem step_appRc {ops : Array Oper} {o : Oper} {a : Act} {w : World} {K : Act → World → Prop} {Q : Exit → Act → World → Prop} {E : Prop} (s x : Operand)
    (ho : o.op = .call { callee := .builtin .append, args := #[s, x], argTypes := #[27, 27] }) (hgd : o.guard = none)
    (B : Nat) (v : Value) (n : Nat) (rs : List Ch.Rec) (g c : Nat) (r : Ch.Rec) (hs : a.eval s = v) (hx : a.eval x = .slice (some ⟨g, 0, none⟩) 1 c)
    (hown : w.ownsRow B 41 7 v n (rc7 rs)) (hc : CellsAt w (some ⟨g, 0, none⟩) (1 * 7) (rc7 [r])) (hn : n ≤ 1048576) (hbase : B ≤ w.heap.size)
    (hK : ∀ a' c' w', w'.ownsRow B 41 7 (.slice a' (n + 1) c') (n + 1) (rc7 (rs ++ [r])) → w.grownBy w' v.ownBlock → (∀ g, (Value.slice a' (n + 1) c').ownBlock = some g → v.ownBlock = some g ∨ w.heap.size ≤ g) → K (a.put o.dst (.slice a' (n + 1) c')) w') :
    if Region.wanted o (yielded ops a.tmps) = true then Oper.wp Try.prog o a w K Q else E := by
  have hw : Region.wanted o (yielded ops a.tmps) = true := by simp [Region.wanted, hgd]
  rw [if_pos hw]
  obtain ⟨a', c', w', hr, h2, h3, h4⟩ := run_appRc (ty := o.type) (c := c) hown hc hn hbase
  exact Lib.wp_append_run w s x _ _ ho _ _ hs hx _ _ hr (hK a' c' w' h2 h3 h4)
theorem wpList_appRc {ops : Array Oper} {rest : List Oper} {o : Oper} {a : Act} {w : World} {Q : Exit → Act → World → Prop} (s x : Operand)
    (ho : o.op = .call { callee := .builtin .append, args := #[s, x], argTypes := #[27, 27] }) (hgd : o.guard = none)
    (B : Nat) (v : Value) (n : Nat) (rs : List Ch.Rec) (g c : Nat) (r : Ch.Rec) (hs : a.eval s = v) (hx : a.eval x = .slice (some ⟨g, 0, none⟩) 1 c)
    (hown : w.ownsRow B 41 7 v n (rc7 rs)) (hc : CellsAt w (some ⟨g, 0, none⟩) (1 * 7) (rc7 [r])) (hn : n ≤ 1048576) (hbase : B ≤ w.heap.size)
    (hK : ∀ a' c' w', w'.ownsRow B 41 7 (.slice a' (n + 1) c') (n + 1) (rc7 (rs ++ [r])) → w.grownBy w' v.ownBlock → (∀ g, (Value.slice a' (n + 1) c').ownBlock = some g → v.ownBlock = some g ∨ w.heap.size ≤ g) → wpList Try.prog ops Q rest (a.put o.dst (.slice a' (n + 1) c')) w') :
    wpList Try.prog ops Q (o :: rest) a w := by
  obtain ⟨a', c', w', hr, h2, h3, h4⟩ := run_appRc (ty := o.type) (c := c) hown hc hn hbase
  exact Lib.wpList_append_run w hgd s x _ _ ho _ _ hs hx _ _ hr (hK a' c' w' h2 h3 h4)

theorem rowThree {W : World} {g : Nat} {t : TypeId} {u0 u1 u2 : Value} (h : W.heap[g]? = some (.cells #[u0, u1, u2] t (0, 0))) :
    W.cell? ⟨g, 0, none⟩ = some u0 ∧ W.cell? ⟨g, 1, none⟩ = some u1 ∧ W.cell? ⟨g, 2, none⟩ = some u2 ∧ W.frozen? ⟨g, 0, none⟩ = false ∧ W.frozen? ⟨g, 1, none⟩ = false ∧ W.frozen? ⟨g, 2, none⟩ = false :=
  ⟨cell_of_row _ _ _ _ _ _ h, cell_of_row _ _ _ _ _ _ h, cell_of_row _ _ _ _ _ _ h, by simp [World.frozen?, h], by simp [World.frozen?, h], by simp [World.frozen?, h]⟩

/-- What a step back leaves. -/
def BackPost (tx c : Int) (ls : List (List Ch.Row)) (rs : List Ch.Rec) (b : Ch.Bf) (B : Nat) (rv : Value) (w : World) (e : Ending) (w' : World) : Prop :=
  ∃ a' m' c' r' p' q', e = .returned (.agg #[.int .i64 (Ch.backOne tx (c, ls, rs) b).1, .slice a' m' c', .slice r' p' q']) ∧ OwnU w' B (.slice a' m' c') m' (Ch.backOne tx (c, ls, rs) b).2.1 (.slice r' p' q') p' (Ch.backOne tx (c, ls, rs) b).2.2 ∧ w.grownBy w' rv.ownBlock ∧ (∀ g, (Value.slice r' p' q').ownBlock = some g → rv.ownBlock = some g ∨ w.heap.size ≤ g)

theorem grown_of_below {w w' : World} (h : Below w.heap.size w w') (row : Option Nat) : w.grownBy w' row := ⟨h.os, h.tape, h.output, h.size, fun k hk _ => h.block k hk⟩

set_option linter.unusedSimpArgs false in
set_option maxRecDepth 20000 in
set_option maxHeartbeats 4000000 in
theorem setBack_code (c tx : Int) (bk : Int) (bh : Bool) (bv : Int) (a r : Option Addr) (m cap p q B : Nat) (ls : List (List Ch.Row)) (rs : List Ch.Rec) (w : World) (U : OwnU w B (.slice a m cap) m ls (.slice r p q) p rs) (hc : (c != 0) = true) :
    Calls Try.prog 115 #[.agg #[.int .i64 c, .slice a m cap, .slice r p q], .int .i64 tx, .agg #[.int .i64 bk, .bool bh, .int .i64 bv]] w (BackPost tx c ls rs ⟨bk, bh, bv⟩ B (.slice r p q) w) := by
  unfold BackPost
  rw [Ch.back_code hc]
  go_enter Try.func115, Try.ntmps115
  go_wp2
  have k : Below w.heap.size w (((w.alloc (.cells #[.int .i64 c, .slice a m cap, .slice r p q] 29)).alloc (.cells #[.int .i64 bk, .bool bh, .int .i64 bv] 32)).alloc (.cells #[.int .i64 c, .slice a m cap, .slice r p q] 29)) := (((Below.refl _ _).alloc (Nat.le_refl _) _).alloc (by simp) _).alloc (by simp; omega) _
  exact bodyPost_ret (v := .agg #[.int .i64 c, .slice a m cap, .slice r p q]) (by simp [results, Try.results115, go_sem]) rfl ⟨a, m, cap, r, p, q, rfl, U.below k, grown_of_below k _, fun g hg => .inl hg⟩
set_option linter.unusedSimpArgs false in
set_option maxRecDepth 20000 in
set_option maxHeartbeats 4000000 in
theorem setBack_many (tx : Int) (bk : Int) (bh : Bool) (bv : Int) (a r : Option Addr) (m cap p q B : Nat) (ls : List (List Ch.Row)) (rs : List Ch.Rec) (w : World) (U : OwnU w B (.slice a m cap) m ls (.slice r p q) p rs) (hB : B ≤ w.heap.size) (hs : Ch.lvSize ls ≤ 1048576) {c2 : Int} (hX : Ch.setR ls tx bk bh bv = (c2, [], [])) (hc : (c2 != 0) = true) :
    Calls Try.prog 115 #[.agg #[.int .i64 0, .slice a m cap, .slice r p q], .int .i64 tx, .agg #[.int .i64 bk, .bool bh, .int .i64 bv]] w (BackPost tx 0 ls rs ⟨bk, bh, bv⟩ B (.slice r p q) w) := by
  unfold BackPost
  rw [Ch.back_many (b := ⟨bk, bh, bv⟩) (by rw [hX]) hc]
  have b0 : Below w.heap.size w (((w.alloc (.cells #[.int .i64 0, .slice a m cap, .slice r p q] 29)).alloc (.cells #[.int .i64 bk, .bool bh, .int .i64 bv] 32)).alloc (.cells #[.int .i64 0, .slice none 0 0, .slice none 0 0] 29)) := (((Below.refl _ _).alloc (Nat.le_refl _) _).alloc (by simp) _).alloc (by simp; omega) _
  have SI := implSetValue_any a m cap tx bk bh bv ls _ ((U.below b0).lv hs) hs
  have hD0 := block_below (((Below.refl _ _).alloc (Nat.le_refl _) (.cells #[.int .i64 bk, .bool bh, .int .i64 bv] 32)).alloc (by simp) (.cells #[.int .i64 0, .slice none 0 0, .slice none 0 0] 29)) (heap_alloc_new w (.cells #[.int .i64 0, .slice a m cap, .slice r p q] 29))
  have hR0 := heap_alloc_new ((w.alloc (.cells #[.int .i64 0, .slice a m cap, .slice r p q] 29)).alloc (.cells #[.int .i64 bk, .bool bh, .int .i64 bv] 32)) (.cells #[.int .i64 0, .slice none 0 0, .slice none 0 0] 29)
  rw [show ((w.alloc (.cells #[.int .i64 0, .slice a m cap, .slice r p q] 29)).alloc (.cells #[.int .i64 bk, .bool bh, .int .i64 bv] 32)).heap.size = w.heap.size + 2 by simp] at hR0
  rw [hX] at SI
  go_enter Try.func115, Try.ntmps115
  go_wp2_with fail
  refine SI.mono ?_
  rintro e w1 ⟨a2, m2, c3, r2, p2, q2, rfl, U2, b1⟩
  have hR1 := block_below b1 hR0
  have z1 := b1.size
  simp at z1
  obtain ⟨x0, x1, x2, f0, f1, f2⟩ := rowThree hR1
  have hz := lt_of_cell x0
  have bE := b0.trans (b1.mono b0.size)
  have hzb : w.heap.size + 2 < w1.heap.size + 1 := by omega
  clear SI hD0 hR0 hR1
  go_wp2
  refine bodyPost_ret (v := .agg #[.int .i64 c2, .slice a2 m2 c3, .slice r2 p2 q2]) (by simp [results, Try.results115, go_sem, x0, x1, x2, hz]) rfl ⟨a2, m2, c3, r2, p2, q2, rfl, ?_, ?_, fun g hg => ?_⟩
  · obtain ⟨vs, lo, hi, h1, h2, h3, h4, h5, h6, h7⟩ := U2
    simp at h3
    have hlow : w.heap.size + 2 < w.heap.size + 3 := by omega
    have hBB : B ≤ w.heap.size + 3 := by omega
    have h1' : OwnV w1 (w.heap.size + 3) (.slice a2 m2 c3) m2 vs [] := by simpa using h1
    have h2' : w1.ownsRow (w.heap.size + 3) 41 7 (.slice r2 p2 q2) p2 (rc7 []) := by simpa using h2
    have h1s := ((h1'.store3 (q := w.heap.size + 2) (o := 0) hlow (.int .i64 c2)).store3 (q := w.heap.size + 2) (o := 1) hlow (.slice a2 m2 c3)).store3 (q := w.heap.size + 2) (o := 2) hlow (.slice r2 p2 q2)
    have h2s := ownsRow_setCell_below (ownsRow_setCell_below (ownsRow_setCell_below h2' (a := ⟨w.heap.size + 2, 0, none⟩) hlow (.int .i64 c2)) (a := ⟨w.heap.size + 2, 1, none⟩) hlow (.slice a2 m2 c3)) (a := ⟨w.heap.size + 2, 2, none⟩) hlow (.slice r2 p2 q2)
    have kk := fun W : World => (Below.refl W.heap.size W).alloc (Nat.le_refl _) (.cells #[.int .i64 c2, .slice a2 m2 c3, .slice r2 p2 q2] 29)
    exact (OwnU.below ⟨vs, lo, hi, h1s, h2s, h3, by simpa using h4, h5, h6, h7⟩ (kk _)).base hBB
  · refine grown_of_below (Below.alloc (((bE.setCell (p := ⟨w.heap.size + 2, 0, none⟩) (Nat.le_add_right _ _) _).setCell (p := ⟨w.heap.size + 2, 1, none⟩) (Nat.le_add_right _ _) _).setCell (p := ⟨w.heap.size + 2, 2, none⟩) (Nat.le_add_right _ _) _) (by simp; omega) _) _
  · obtain ⟨vs, lo, hi, h1, h2, _⟩ := U2
    have := (owns_lt h2 g hg).1
    simp at this
    exact .inr (by omega)

set_option linter.unusedSimpArgs false in
set_option maxRecDepth 20000 in
set_option maxHeartbeats 4000000 in
theorem setBack_ok (tx : Int) (bk : Int) (bh : Bool) (bv : Int) (a r : Option Addr) (m cap p q B : Nat) (ls : List (List Ch.Row)) (rs : List Ch.Rec) (w : World) (U : OwnU w B (.slice a m cap) m ls (.slice r p q) p rs) (hB : B ≤ w.heap.size) (hs : Ch.lvSize ls ≤ 1048576) (hp : p ≤ 1048576) {l2 : List (List Ch.Row)} {rh : Bool} {ro : Int} (hX : Ch.setR ls tx bk bh bv = (0, l2, [⟨2, tx, bk, rh, ro, bh, bv⟩])) (hX3 : Ch.setRec 3 ls tx bk bh bv = ⟨3, tx, bk, rh, ro, bh, bv⟩) :
    Calls Try.prog 115 #[.agg #[.int .i64 0, .slice a m cap, .slice r p q], .int .i64 tx, .agg #[.int .i64 bk, .bool bh, .int .i64 bv]] w (BackPost tx 0 ls rs ⟨bk, bh, bv⟩ B (.slice r p q) w) := by
  unfold BackPost
  rw [Ch.back_ok (b := ⟨bk, bh, bv⟩) (by rw [hX])]
  simp only
  rw [hX3]
  obtain ⟨vs0, lo0, hi0, g1, g2, g3, g4, g5, g6, g7⟩ := U
  have U : OwnU w B (.slice a m cap) m ls (.slice r p q) p rs := ⟨vs0, lo0, hi0, g1, g2, g3, g4, g5, g6, g7⟩
  have b0 : Below w.heap.size w (((w.alloc (.cells #[.int .i64 0, .slice a m cap, .slice r p q] 29)).alloc (.cells #[.int .i64 bk, .bool bh, .int .i64 bv] 32)).alloc (.cells #[.int .i64 0, .slice none 0 0, .slice none 0 0] 29)) := (((Below.refl _ _).alloc (Nat.le_refl _) _).alloc (by simp) _).alloc (by simp; omega) _
  have SI := implSetValue_any a m cap tx bk bh bv ls _ ((U.below b0).lv hs) hs
  have hD0 := block_below (((Below.refl _ _).alloc (Nat.le_refl _) (.cells #[.int .i64 bk, .bool bh, .int .i64 bv] 32)).alloc (by simp) (.cells #[.int .i64 0, .slice none 0 0, .slice none 0 0] 29)) (heap_alloc_new w (.cells #[.int .i64 0, .slice a m cap, .slice r p q] 29))
  have hR0 := heap_alloc_new ((w.alloc (.cells #[.int .i64 0, .slice a m cap, .slice r p q] 29)).alloc (.cells #[.int .i64 bk, .bool bh, .int .i64 bv] 32)) (.cells #[.int .i64 0, .slice none 0 0, .slice none 0 0] 29)
  rw [show ((w.alloc (.cells #[.int .i64 0, .slice a m cap, .slice r p q] 29)).alloc (.cells #[.int .i64 bk, .bool bh, .int .i64 bv] 32)).heap.size = w.heap.size + 2 by simp] at hR0
  rw [hX] at SI ⊢
  simp only at SI ⊢
  clear hX hX3 g1 g3 g4 g5 g6 g7
  have K2 := owns_lt g2
  go_enter Try.func115, Try.ntmps115
  go_wp2_with fail
  refine SI.mono ?_
  rintro e w1 ⟨a2, m2, c2, r2, p2, q2, rfl, U2, b1⟩
  have hp2 : p2 = 1 := U2.len.2
  subst hp2
  obtain ⟨b, off, rfl, v0, v1, v2, v3, v4, v5, v6⟩ := U2.rc.rec (k := 0) (by omega)
  simp only [Nat.zero_mul, Nat.add_zero, List.getD_cons_zero] at v0 v1 v2 v3 v4 v5 v6
  have hvb := lt_of_cell v0
  have hR1 := block_below b1 hR0
  have hD1 := block_below b1 hD0
  have z1 := b1.size
  simp at z1
  have bE := b0.trans (b1.mono b0.size)
  have hz0 : w.heap.size < w1.heap.size := by omega
  have hz2 : w.heap.size + 2 < w1.heap.size := by omega
  have hn0 : ¬ w.heap.size = w1.heap.size := by omega
  clear SI hD0 hR0
  have kS : Below w1.heap.size w1 ((w1.alloc (.cells #[.int .i64 0, .slice a2 m2 c2, .slice (some ⟨b, off, none⟩) 1 q2] 29)).alloc (.cells #[.int .i64 3, .int .i64 tx, .int .i64 bk, .bool rh, .int .i64 ro, .bool bh, .int .i64 bv] 41)) := ((Below.refl _ _).alloc (Nat.le_refl _) _).alloc (by simp) _
  have s1 : ((w1.alloc (.cells #[.int .i64 0, .slice a2 m2 c2, .slice (some ⟨b, off, none⟩) 1 q2] 29)).alloc (.cells #[.int .i64 3, .int .i64 tx, .int .i64 bk, .bool rh, .int .i64 ro, .bool bh, .int .i64 bv] 41)).cell? ⟨w1.heap.size, 1, none⟩ = some (.slice a2 m2 c2) := keep_cell ((Below.refl _ _).alloc (Nat.le_refl _) _) (by simp [go_sem])
  obtain ⟨⟨k0, k1, k2, k3, k4, k5, k6⟩, _⟩ := rowSeven (heap_alloc_new (w1.alloc (.cells #[.int .i64 0, .slice a2 m2 c2, .slice (some ⟨b, off, none⟩) 1 q2] 29)) (.cells #[.int .i64 3, .int .i64 tx, .int .i64 bk, .bool rh, .int .i64 ro, .bool bh, .int .i64 bv] 41))
  rw [show (w1.alloc (.cells #[.int .i64 0, .slice a2 m2 c2, .slice (some ⟨b, off, none⟩) 1 q2] 29)).heap.size = w1.heap.size + 1 by simp] at k0 k1 k2 k3 k4 k5 k6
  have d2 := keep_cell kS (rowThree hD1).2.2.1
  have kD : Below w1.heap.size w1 ((w1.alloc (.cells #[.int .i64 0, .slice a2 m2 c2, .slice (some ⟨b, off, none⟩) 1 q2] 29)).alloc (.cells #[.int .i64 3, .int .i64 tx, .int .i64 bk, .bool rh, .int .i64 ro, .bool bh, .int .i64 bv] 41)).drew := kS.drew
  have zV : ((w1.alloc (.cells #[.int .i64 0, .slice a2 m2 c2, .slice (some ⟨b, off, none⟩) 1 q2] 29)).alloc (.cells #[.int .i64 3, .int .i64 tx, .int .i64 bk, .bool rh, .int .i64 ro, .bool bh, .int .i64 bv] 41)).drew.heap.size = w1.heap.size + 2 := by simp [World.drew]
  go_wp2
  refine wp_region_noPanic ?_
  refine wp_region_held_drew (S := fun W' => W'.cell? ⟨w1.heap.size, 1, none⟩ = some (.slice a2 m2 c2) ∧ W'.cell? ⟨w.heap.size, 2, none⟩ = some (.slice r p q) ∧ W'.cell? ⟨w1.heap.size + 1, 0, none⟩ = some (.int .i64 3) ∧ W'.cell? ⟨w1.heap.size + 1, 1, none⟩ = some (.int .i64 tx) ∧ W'.cell? ⟨w1.heap.size + 1, 2, none⟩ = some (.int .i64 bk) ∧ W'.cell? ⟨w1.heap.size + 1, 3, none⟩ = some (.bool rh) ∧ W'.cell? ⟨w1.heap.size + 1, 4, none⟩ = some (.int .i64 ro) ∧ W'.cell? ⟨w1.heap.size + 1, 5, none⟩ = some (.bool bh) ∧ W'.cell? ⟨w1.heap.size + 1, 6, none⟩ = some (.int .i64 bv)) (by kernel_rfl) (⟨s1, d2, k0, k1, k2, k3, k4, k5, k6⟩) (fun hH => ?_)
  generalize ((w1.alloc (.cells #[.int .i64 0, .slice a2 m2 c2, .slice (some ⟨b, off, none⟩) 1 q2] 29)).alloc (.cells #[.int .i64 3, .int .i64 tx, .int .i64 bk, .bool rh, .int .i64 ro, .bool bh, .int .i64 bv] 41)).drew = V at *
  clear s1 d2 k0 k1 k2 k3 k4 k5 k6 kS
  have kN : Below V.heap.size V (V.alloc (.cells #[.int .i64 3, .int .i64 tx, .int .i64 bk, .bool rh, .int .i64 ro, .bool bh, .int .i64 bv] 41)) := (Below.refl _ _).alloc (Nat.le_refl _) _
  have bV := bE.trans (kD.mono bE.size)
  have bN := bV.trans (kN.mono bV.size)
  have oN := owns_below g2 bN
  have hC := new_rec (w := V) (r := ⟨3, tx, bk, rh, ro, bh, bv⟩) (t := 41) (H := w1.heap.size + 2) zV.symm
  have hb3 : B ≤ (V.alloc (.cells #[.int .i64 3, .int .i64 tx, .int .i64 bk, .bool rh, .int .i64 ro, .bool bh, .int .i64 bv] 41)).heap.size := Nat.le_trans hB bN.size
  have hRN := block_below kN (block_below kD hR1)
  have U2N := (U2.below kD).below kN
  have ne0 : (Value.slice r p q).ownBlock ≠ some w.heap.size := fun e => by have := (K2 _ e).2; omega
  have ne1 : (Value.slice r p q).ownBlock ≠ some w1.heap.size := fun e => by have := (K2 _ e).2; omega
  have ne2 : (Value.slice r p q).ownBlock ≠ some (w1.heap.size + 1) := fun e => by have := (K2 _ e).2; omega
  have ne3 : (Value.slice r p q).ownBlock ≠ some (w.heap.size + 2) := fun e => by have := (K2 _ e).2; omega
  refine hTake (i := 0) (v := ?_) rfl (by kernel_rfl) (by kernel_rfl) (by kernel_rfl) (by rfl) ?_ hH ?_
  rotate_left
  · intro W hW; (try dsimp only at hW); go_simp <;> with_reducible rfl
  simp only [Act.put, List.setIfInBounds_toArray, List.set_cons_zero, List.set_cons_succ]
  refine hTake (i := 1) (v := ?_) rfl (by kernel_rfl) (by kernel_rfl) (by kernel_rfl) (by rfl) ?_ hH ?_
  rotate_left
  · intro W hW; (try dsimp only at hW); go_simp <;> with_reducible rfl
  simp only [Act.put, List.setIfInBounds_toArray, List.set_cons_zero, List.set_cons_succ]
  refine hTake (i := 2) (v := ?_) rfl (by kernel_rfl) (by kernel_rfl) (by kernel_rfl) (by rfl) ?_ hH ?_
  rotate_left
  · intro W hW; (try dsimp only at hW); go_simp <;> with_reducible rfl
  simp only [Act.put, List.setIfInBounds_toArray, List.set_cons_zero, List.set_cons_succ]
  refine hTake (i := 3) (v := ?_) rfl (by kernel_rfl) (by kernel_rfl) (by kernel_rfl) (by rfl) ?_ hH ?_
  rotate_left
  · intro W hW; (try dsimp only at hW); go_simp <;> with_reducible rfl
  simp only [Act.put, List.setIfInBounds_toArray, List.set_cons_zero, List.set_cons_succ]
  refine hTake (i := 4) (v := ?_) rfl (by kernel_rfl) (by kernel_rfl) (by kernel_rfl) (by rfl) ?_ hH ?_
  rotate_left
  · intro W hW; (try dsimp only at hW); go_simp <;> with_reducible rfl
  simp only [Act.put, List.setIfInBounds_toArray, List.set_cons_zero, List.set_cons_succ]
  refine wpAnyH_ready (rs := [5]) (by kernel_rfl) (by simp) ?_
  refine AllReadyH.cons rfl (fun K hK => ?_) AllReadyH.nil
  go_simp
  refine hK.out _ _ ?_ (fun hH => ?_)
  · exact ⟨keep_cell kN hH.1, keep_cell kN hH.2.1, keep_cell kN hH.2.2.1, keep_cell kN hH.2.2.2.1, keep_cell kN hH.2.2.2.2.1, keep_cell kN hH.2.2.2.2.2.1, keep_cell kN hH.2.2.2.2.2.2.1, keep_cell kN hH.2.2.2.2.2.2.2.1, keep_cell kN hH.2.2.2.2.2.2.2.2⟩
  clear hK K
  refine wpAnyH_ready (rs := [6]) (by kernel_rfl) (by simp) ?_
  refine AllReadyH.cons rfl (fun K hK => ?_) AllReadyH.nil
  refine step_appRc (.tmp 35) (.tmp 37) rfl rfl B (.slice r p q) p rs (w1.heap.size + 2) 1 ⟨3, tx, bk, rh, ro, bh, bv⟩ rfl rfl oN hC hp hb3 ?_
  intro a5 c5 w5 own5 gr5 at5
  have hR5 := block_grown gr5 hRN ne3
  obtain ⟨x0, x1, x2, f0, f1, f2⟩ := rowThree hR5
  have hz5 := lt_of_cell x0
  refine hK.out _ _ ⟨grown_cell gr5 hH.1 ne1, grown_cell gr5 hH.2.1 ne0, grown_cell gr5 hH.2.2.1 ne2, grown_cell gr5 hH.2.2.2.1 ne2, grown_cell gr5 hH.2.2.2.2.1 ne2, grown_cell gr5 hH.2.2.2.2.2.1 ne2, grown_cell gr5 hH.2.2.2.2.2.2.1 ne2, grown_cell gr5 hH.2.2.2.2.2.2.2.1 ne2, grown_cell gr5 hH.2.2.2.2.2.2.2.2 ne2⟩ (fun hH => ?_)
  clear hK K
  simp only [Act.put, List.setIfInBounds_toArray, List.set_cons_zero, List.set_cons_succ]
  refine hTake (i := 7) (v := ?_) rfl (by kernel_rfl) (by kernel_rfl) (by kernel_rfl) (by rfl) ?_ hH ?_
  rotate_left
  · intro W hW; (try dsimp only at hW); go_simp <;> with_reducible rfl
  simp only [Act.put, List.setIfInBounds_toArray, List.set_cons_zero, List.set_cons_succ]
  refine wpAnyH_ready (rs := [8]) (by kernel_rfl) (by simp) ?_
  refine AllReadyH.cons rfl (fun K hK => ?_) AllReadyH.nil
  go_simp
  refine hK.out _ _ ?_ (fun hH => ?_)
  · refine ⟨?_, ?_, ?_, ?_, ?_, ?_, ?_, ?_, ?_⟩ <;> (rw [World.cell?_setCell_other _ _ _ _ (by simp <;> omega), World.cell?_setCell_other _ _ _ _ (by simp <;> omega), World.cell?_setCell_other _ _ _ _ (by simp <;> omega)]; first | exact hH.1 | exact hH.2.1 | exact hH.2.2.1 | exact hH.2.2.2.1 | exact hH.2.2.2.2.1 | exact hH.2.2.2.2.2.1 | exact hH.2.2.2.2.2.2.1 | exact hH.2.2.2.2.2.2.2.1 | exact hH.2.2.2.2.2.2.2.2)
  clear hK K
  refine wpAnyH_done (by kernel_rfl) ?_ _
  refine NoPanic.normal ?_
  have hK2 := hid K2
  have hzN := kN.size
  have hzD := kD.size
  have hlow : w.heap.size + 1 + 1 < w.heap.size + 3 := by omega
  clear hH
  go_wp2
  refine bodyPost_ret (v := .agg #[.int .i64 0, .slice a2 m2 c2, .slice a5 (p + 1) c5]) (by simp [results, Try.results115, go_sem, x0, x1, x2, hz5]) rfl ⟨a2, m2, c2, a5, p + 1, c5, rfl, ?_, ?_, fun g hg => ?_⟩
  · obtain ⟨vs, lo, hi, h1, h2, h3, h4, h5, h6, h7⟩ := U2N
    simp at h3
    obtain ⟨hl, ho, hi', hd, hd'⟩ := h1
    have h1g : OwnV w5 (w.heap.size + 3) (.slice a2 m2 c2) m2 vs l2 := by
      refine ⟨hl, owns_grown (by simpa using ho) gr5 (fun g hg hk => by have := (K2 g hk).2; have := h5 g hg; omega), fun i hlt => ?_, hd, hd'⟩
      obtain ⟨x, e1, e2⟩ := hi' i hlt
      exact ⟨x, e1, owns_grown (by simpa using e2) gr5 (fun g hg hk => by have := (K2 g hk).2; have := h6 i x g e1 hg; omega)⟩
    have h1s := ((h1g.store3 (q := w.heap.size + 1 + 1) (o := 0) hlow (.int .i64 0)).store3 (q := w.heap.size + 1 + 1) (o := 1) hlow (.slice a2 m2 c2)).store3 (q := w.heap.size + 1 + 1) (o := 2) hlow (.slice a5 (p + 1) c5)
    have hne : ∀ g, (Value.slice a5 (p + 1) c5).ownBlock = some g → g ≠ w.heap.size + 1 + 1 := fun g hg => by
      rcases at5 g hg with h | h
      · have := (K2 g h).2; omega
      · omega
    have h2s := owns_set (o := 2) (owns_set (o := 1) (owns_set (o := 0) own5 hne (.int .i64 0)) hne (.slice a2 m2 c2)) hne (.slice a5 (p + 1) c5)
    refine ⟨vs, lo, hi, h1s.base (by omega), h2s, by omega, by have := gr5.size; simp; omega, h5, h6, fun g hg => ?_⟩
    rcases at5 g hg with h | h
    · have := (K2 g h).2; exact .inl (by omega)
    · exact .inr (by omega)
  · have bG := bN.size
    refine ⟨gr5.os.trans bN.os, gr5.tape.trans bN.tape, gr5.output.trans bN.output, by have := gr5.size; simp; omega, fun j hj hne => ?_⟩
    have e1 := (gr5.block j (by omega) hne).trans (bN.block j hj)
    rw [Below.heap_setCell _ _ _ _ (by show j ≠ w.heap.size + 1 + 1; omega), Below.heap_setCell _ _ _ _ (by show j ≠ w.heap.size + 1 + 1; omega), Below.heap_setCell _ _ _ _ (by show j ≠ w.heap.size + 1 + 1; omega)]
    exact e1
  · rcases at5 g hg with h | h
    · exact .inl h
    · exact .inr (by omega)

theorem setBack_any (c : Int) (tx : Int) (bk : Int) (bh : Bool) (bv : Int) (a r : Option Addr) (m cap p q B : Nat) (ls : List (List Ch.Row)) (rs : List Ch.Rec) (w : World) (U : OwnU w B (.slice a m cap) m ls (.slice r p q) p rs) (hB : B ≤ w.heap.size) (hs : Ch.lvSize ls ≤ 1048576) (hp : p ≤ 1048576) :
    Calls Try.prog 115 #[.agg #[.int .i64 c, .slice a m cap, .slice r p q], .int .i64 tx, .agg #[.int .i64 bk, .bool bh, .int .i64 bv]] w (BackPost tx c ls rs ⟨bk, bh, bv⟩ B (.slice r p q) w) := by
  by_cases hc : c = 0
  · subst hc
    by_cases hx : (Ch.setR ls tx bk bh bv).1 = 0
    · refine setBack_ok tx bk bh bv a r m cap p q B ls rs w U hB hs hp (l2 := (Ch.setR ls tx bk bh bv).2.1) (rh := (Ch.bf bk (Ch.has ls bk)).h) (ro := (Ch.bf bk (Ch.has ls bk)).v) ?_ rfl
      have h2 := Ch.setR_rec hx
      generalize Ch.setR ls tx bk bh bv = X at *
      obtain ⟨x1, x2, x3⟩ := X
      simp only at hx h2
      subst hx h2
      rfl
    · refine setBack_many tx bk bh bv a r m cap p q B ls rs w U hB hs (c2 := (Ch.setR ls tx bk bh bv).1) ?_ (by simpa using hx)
      by_cases hf : Ch.setF ls tx [⟨bk, bh, bv⟩] = 0
      · by_cases hm : (Ch.setLs ls bk bh bv).1 = 0
        · rw [Ch.setR_ok hf hm] at hx; exact absurd rfl hx
        · rw [Ch.setR_many hf rfl (by simpa using hm)]
      · rw [Ch.setR_code rfl (by simpa using hf)]
  · exact setBack_code c tx bk bh bv a r m cap p q B ls rs w U (by simpa using hc)
end Go.Proofs.Ythfanfnbjldddaa


/- What is put off: one deferred step, and all of them. -/
namespace Go.Proofs.Ythfanfnbjldddaa
open Go.RowKit

/-- All blocks but R and the records' own are as they were. -/
structure KeptB (R : Nat) (rv : Value) (w w' : World) : Prop where
  os : w'.os = w.os
  tape : w'.tape = w.tape
  output : w'.output = w.output
  size : w.heap.size ≤ w'.heap.size
  block : ∀ k, k < w.heap.size → k ≠ R → some k ≠ rv.ownBlock → w'.heap[k]? = w.heap[k]?

theorem heap_three {w : World} {R : Nat} {t : TypeId} {u0 u1 u2 : Value} (h : w.heap[R]? = some (.cells #[u0, u1, u2] t (0, 0))) (v0 v1 v2 : Value) : (((w.setCell ⟨R, 0, none⟩ v0).setCell ⟨R, 1, none⟩ v1).setCell ⟨R, 2, none⟩ v2).heap[R]? = some (.cells #[v0, v1, v2] t (0, 0)) := by
  have h0 := Joins.block_setCell (i := 0) h v0
  have h1 := Joins.block_setCell (i := 1) h0 v1
  have h2 := Joins.block_setCell (i := 2) h1 v2
  simpa using h2

set_option linter.unusedSimpArgs false in
set_option maxRecDepth 20000 in
set_option maxHeartbeats 2000000 in
theorem back_deferred (R T X : Nat) (c tx bk : Int) (bh : Bool) (bv : Int) (a r : Option Addr) (m cap p q B : Nat) (ls : List (List Ch.Row)) (rs : List Ch.Rec) (u : FrameMode) (w : World)
    (hR : w.heap[R]? = some (.cells #[.int .i64 c, .slice a m cap, .slice r p q] 29 (0, 0))) (hT : w.heap[T]? = some (.cells #[.int .i64 tx] 2 (0, 0))) (hX : w.heap[X]? = some (.cells #[.int .i64 bk, .bool bh, .int .i64 bv] 32 (0, 0)))
    (U : OwnU w B (.slice a m cap) m ls (.slice r p q) p rs) (hRB : R < B) (hB : B ≤ w.heap.size) (hs : Ch.lvSize ls ≤ 1048576) (hp : p ≤ 1048576) :
    CallsD Try.prog 114 #[.pointer (some ⟨R, 0, none⟩), .pointer (some ⟨T, 0, none⟩), .pointer (some ⟨X, 0, none⟩)] u w fun e u' w' => u' = u ∧ e = .returned (.tuple #[]) ∧ ∃ a' m' c' r' p' q', w'.heap[R]? = some (.cells #[.int .i64 (Ch.backOne tx (c, ls, rs) ⟨bk, bh, bv⟩).1, .slice a' m' c', .slice r' p' q'] 29 (0, 0)) ∧ OwnU w' B (.slice a' m' c') m' (Ch.backOne tx (c, ls, rs) ⟨bk, bh, bv⟩).2.1 (.slice r' p' q') p' (Ch.backOne tx (c, ls, rs) ⟨bk, bh, bv⟩).2.2 ∧ KeptB R (.slice r p q) w w' ∧ (∀ g, (Value.slice r' p' q').ownBlock = some g → (Value.slice r p q).ownBlock = some g ∨ w.heap.size ≤ g) := by
  obtain ⟨x0, x1, x2, f0, f1, f2⟩ := rowThree hR
  obtain ⟨y0, y1, y2, _, _, _⟩ := rowThree hX
  have t0 : w.cell? ⟨T, 0, none⟩ = some (.int .i64 tx) := cell_of_row _ _ _ _ _ _ hT
  have SI := setBack_any c tx bk bh bv a r m cap p q B ls rs w U hB hs hp
  have hrR : (Value.slice r p q).ownBlock ≠ some R := by
    obtain ⟨vs, lo, hi, h1, h2, _⟩ := U
    exact fun e => by have := (owns_lt h2 R e).1; omega
  unfold BackPost at SI
  generalize Ch.backOne tx (c, ls, rs) ⟨bk, bh, bv⟩ = st at *
  go_enter_d Try.func114, Try.ntmps114
  go_wp2_with fail
  refine SI.mono ?_
  rintro e w1 ⟨a', m', c', r', p', q', rfl, U1, gr1, at1⟩
  have hR1 := block_grown gr1 hR hrR
  obtain ⟨x0, x1, x2, f0, f1, f2⟩ := rowThree hR1
  go_wp2
  refine ⟨rfl, .tuple #[], by simp [results, Try.results114, go_sem], rfl, a', m', c', r', p', q', heap_three hR1 _ _ _, ?_, ?_, at1⟩
  · obtain ⟨vs, lo, hi, h1, h2, h3, h4, h5⟩ := U1
    exact ⟨vs, lo, hi, ((h1.store3 hRB _).store3 hRB _).store3 hRB _, ownsRow_setCell_below (ownsRow_setCell_below (ownsRow_setCell_below h2 (a := ⟨R, 0, none⟩) hRB _) (a := ⟨R, 1, none⟩) hRB _) (a := ⟨R, 2, none⟩) hRB _, h3, by simpa using h4, h5⟩
  · refine ⟨gr1.os, gr1.tape, gr1.output, by simpa using gr1.size, fun k hk hne hne2 => ?_⟩
    rw [Below.heap_setCell _ _ _ _ (by exact hne), Below.heap_setCell _ _ _ _ (by exact hne), Below.heap_setCell _ _ _ _ (by exact hne)]
    exact gr1.block k hk hne2

/-- What is put off for the first k of them, the last one first. -/
def putOff (R T H : Nat) : Nat → List Deferred
  | 0 => []
  | k + 1 => { target := .fn (.func 114) #[.pointer (some ⟨R, 0, none⟩), .pointer (some ⟨T, 0, none⟩), .pointer (some ⟨H + k, 0, none⟩)], args := #[] } :: putOff R T H k

/-- All that is put off, done. -/
theorem leaves_back (B0 R T H B N : Nat) (hB0 : B0 ≤ R) (tx : Int) (ls : List (List Ch.Row)) (bs : List Ch.Bf) (hg : Ch.leavesFault ls = 0) (hN : bs.length ≤ N) (hN4 : N ≤ 1000) (hRB : R < B) (hTB : T < B) (hTR : T ≠ R) (hBH : B ≤ H) (tmps : Array Value) (Q : Ending → World → Prop) (W : World)
    (hres : ∀ w' x0 x1 x2, w'.heap[R]? = some (.cells #[x0, x1, x2] 29 (0, 0)) → (results Try.f68 tmps).run Try.prog w' = .ok (.agg #[x0, x1, x2]) w')
    (hQ : ∀ w' a m cap r p q, OwnU w' B (.slice a m cap) m (Ch.backAll tx ls bs).2.1 (.slice r p q) p (Ch.backAll tx ls bs).2.2 → Below B0 W w' → Q (.returned (.agg #[.int .i64 (Ch.backAll tx ls bs).1, .slice a m cap, .slice r p q])) w') :
    ∀ (k : Nat), k ≤ bs.length → ∀ (w : World) (a : Option Addr) (m cap : Nat) (r : Option Addr) (p q : Nat), w.heap[R]? = some (.cells #[.int .i64 (Ch.backAll tx ls (bs.drop k)).1, .slice a m cap, .slice r p q] 29 (0, 0)) → w.heap[T]? = some (.cells #[.int .i64 tx] 2 (0, 0)) →
      (∀ i, i < k → w.heap[H + i]? = some (.cells #[.int .i64 (bs.getD i Ch.Bf.zero).k, .bool (bs.getD i Ch.Bf.zero).h, .int .i64 (bs.getD i Ch.Bf.zero).v] 32 (0, 0))) →
      OwnU w B (.slice a m cap) m (Ch.backAll tx ls (bs.drop k)).2.1 (.slice r p q) p (Ch.backAll tx ls (bs.drop k)).2.2 → (∀ g, (Value.slice r p q).ownBlock = some g → H + bs.length ≤ g) → H + bs.length ≤ w.heap.size → Below B0 W w → W.heap.size ≤ w.heap.size → B0 ≤ W.heap.size →
      Leaves Try.prog Try.f68 tmps Q (putOff R T H k) .returning w := by
  intro k
  induction k with
  | zero =>
    intro _ w a m cap r p q hR hT hX U hrec hsz bel _ _
    rw [List.drop_zero] at hR U
    refine ⟨_, hres w _ _ _ hR, ?_⟩
    exact hQ w a m cap r p q U bel
  | succ k ih =>
    intro hk w a m cap r p q hR hT hX U hrec hsz bel hW hBW
    have hkl : k < bs.length := by omega
    have keep := Ch.back_keeps (tx := tx) hg (bs.drop (k + 1))
    have hlen : p ≤ 1048576 := by
      have := U.len.2
      have h2 := keep.2.1
      simp at h2
      omega
    have hnext := Ch.back_next (tx := tx) (ls := ls) hkl
    generalize hst : Ch.backAll tx ls (bs.drop (k + 1)) = st at *
    obtain ⟨c, l, rs⟩ := st
    have hXk := hX k (by omega)
    unfold putOff
    refine leaves_cons (f := 114) (args := #[.pointer (some ⟨R, 0, none⟩), .pointer (some ⟨T, 0, none⟩), .pointer (some ⟨H + k, 0, none⟩)]) (by simp) (by simp [go_sem]) ?_
    refine (back_deferred R T (H + k) c tx _ _ _ a r m cap p q B l rs .returning w hR hT hXk U hRB (by omega) keep.1 hlen).mono ?_
    rintro e u' w' ⟨rfl, rfl, a', m', c', r', p', q', hR', U', kb, at'⟩
    rw [← hnext] at hR' U'
    have hne : ∀ j, j < H + bs.length → some j ≠ (Value.slice r p q).ownBlock := fun j hj e => by have := hrec j e.symm; omega
    refine ih (by omega) w' a' m' c' r' p' q' hR' ((kb.block T (by omega) hTR (hne T (by omega))).trans hT) (fun i hi => (kb.block (H + i) (by omega) (by omega) (hne (H + i) (by omega))).trans (hX i (by omega))) U' (fun g hg' => ?_) (Nat.le_trans hsz kb.size) ?_ (Nat.le_trans hW kb.size) hBW
    · rcases at' g hg' with h | h
      · exact hrec g h
      · omega
    · refine ⟨kb.os.trans bel.os, kb.tape.trans bel.tape, kb.output.trans bel.output, Nat.le_trans bel.size kb.size, fun j hj => ?_⟩
      exact (kb.block j (by omega) (by omega) (hne j (by omega))).trans (bel.block j hj)
end Go.Proofs.Ythfanfnbjldddaa


/- takenBack and UndoAll of the program. -/
namespace Go.Proofs.Ythfanfnbjldddaa
open Go.RowKit

theorem OwnU.low {w : World} {B m p : Nat} {lv rv : Value} {ls : List (List Ch.Row)} {rs : List Ch.Rec} (h : OwnU w B lv m ls rv p rs) {q o : Nat} (hq : q < B) (u : Value) : OwnU (w.setCell ⟨q, o, Option.none⟩ u) B lv m ls rv p rs := by
  obtain ⟨vs, lo, hi, h1, h2, h3, h4, h5⟩ := h
  exact ⟨vs, lo, hi, h1.store3 hq u, ownsRow_setCell_below h2 (a := ⟨q, o, Option.none⟩) hq u, h3, by simpa using h4, h5⟩
theorem Ch.setF_leaves {ls : List (List Ch.Row)} {tx : Int} {bs : List Ch.Bf} (h : Ch.setF ls tx bs = 0) : Ch.leavesFault ls = 0 := by
  unfold Ch.setF at h
  by_cases h1 : (Ch.leavesFault ls != 0) = true
  · rw [if_pos h1] at h; rw [h] at h1; cases h1
  · simpa using h1
theorem Ch.setF_rest {ls : List (List Ch.Row)} {tx : Int} {bs : List Ch.Bf} (h : Ch.setF ls tx bs = 0) : Ch.inB tx 1 999 = true ∧ Ch.befFault bs = 0 := by
  have hg := Ch.setF_leaves h
  unfold Ch.setF at h
  rw [hg, if_neg (by decide)] at h
  by_cases h2 : Ch.inB tx 1 999 = true
  · rw [if_pos h2] at h; exact ⟨h2, h⟩
  · rw [if_neg h2] at h; cases h
theorem Ch.setF_few {ls : List (List Ch.Row)} {tx : Int} {bs : List Ch.Bf} (h : Ch.setF ls tx bs = 0) : bs.length ≤ 40 := by
  have := (Ch.setF_rest h).2
  unfold Ch.befFault at this
  by_cases hb : 40 < bs.length
  · rw [if_pos hb] at this; cases this
  · omega
theorem heap_mid {w : World} {R : Nat} {t : TypeId} {u0 u1 u2 : Value} (h : w.heap[R]? = some (.cells #[u0, u1, u2] t (0, 0))) (v1 : Value) : (w.setCell ⟨R, 1, none⟩ v1).heap[R]? = some (.cells #[u0, v1, u2] t (0, 0)) := by
  have h1 := Joins.block_setCell (i := 1) h v1
  simpa using h1

set_option linter.unusedSimpArgs false in
set_option maxRecDepth 20000 in
set_option maxHeartbeats 4000000 in
theorem takenBack_any (a : Option Addr) (n cap : Nat) (tx : Int) (ab : Option Addr) (nb cb : Nat) (ls : List (List Ch.Row)) (bs : List Ch.Bf) (w : World) (h : LvAt w a n ls) (hg : Ch.leavesFault ls = 0) (hb : CellsAt w ab (nb * 3) (bfcells bs)) (hnb : nb ≤ 40) :
    Calls Try.prog 68 #[.slice a n cap, .int .i64 tx, .slice ab nb cb] w fun e w' => ∃ a' m c' r p q, e = .returned (.agg #[.int .i64 (Ch.backAll tx ls bs).1, .slice a' m c', .slice r p q]) ∧ OwnU w' w.heap.size (.slice a' m c') m (Ch.backAll tx ls bs).2.1 (.slice r p q) p (Ch.backAll tx ls bs).2.2 ∧ Below w.heap.size w w' := by
  have hs := Ch.good_size hg
  have HL := hb.bflen
  have hgl : ∀ k, k < n → (ls.getD k []).length ≠ 0 := fun k hk => (Ch.good_leaf hg k (by have := h.len.out; omega)).1
  have hmf : ∀ (fn : Fn) (first cap : Array Value) (w : World), (Instr.makeFunc fn first cap).run Try.prog w = .ok (.func fn first cap) w := fun _ _ _ _ => rfl
  have b0 : Below w.heap.size w ((w.alloc (.cells #[.int .i64 tx] 2)).alloc (.cells #[.int .i64 0, .slice none 0 0, .slice none 0 0] 29)) := ((Below.refl _ _).alloc (Nat.le_refl _) _).alloc (by simp) _
  have hT0 := block_below ((Below.refl _ _).alloc (Nat.le_refl _) (.cells #[.int .i64 0, .slice none 0 0, .slice none 0 0] 29)) (heap_alloc_new w (.cells #[.int .i64 tx] 2))
  have hR0 := heap_alloc_new (w.alloc (.cells #[.int .i64 tx] 2)) (.cells #[.int .i64 0, .slice none 0 0, .slice none 0 0] 29)
  rw [show (w.alloc (.cells #[.int .i64 tx] 2)).heap.size = w.heap.size + 1 by simp] at hR0
  go_enter_defers Try.func68, Try.ntmps68
  go_wp2_with fail
  refine (cloneLeavesAll_any a n cap ls _ (h.below b0) hs hgl).mono ?_
  rintro e w1 ⟨a1, c1, rfl, o1, b1⟩
  have hR1 := block_below b1 hR0
  have hT1 := block_below b1 hT0
  have bE := b0.trans (b1.mono b0.size)
  have z1 := b1.size
  simp at z1
  obtain ⟨x0, x1, x2, f0, f1, f2⟩ := rowThree hR1
  clear hR0 hT0 b0
  go_wp2
  have hRV := heap_mid hR1 (.slice a1 n c1)
  have hTV : (w1.setCell ⟨w.heap.size + 1, 1, none⟩ (.slice a1 n c1)).heap[w.heap.size]? = some (.cells #[.int .i64 tx] 2 (0, 0)) := (Below.heap_setCell _ _ _ _ (by show w.heap.size ≠ w.heap.size + 1; omega)).trans hT1
  obtain ⟨vs, o1⟩ := o1.told
  have o1V := o1.store3 (q := w.heap.size + 1) (o := 1) (by simp) (.slice a1 n c1)
  have hBV := bE.setCell (p := ⟨w.heap.size + 1, 1, none⟩) (Nat.le_succ _) (.slice a1 n c1)
  have hVs : (w1.setCell ⟨w.heap.size + 1, 1, none⟩ (.slice a1 n c1)).heap.size = w1.heap.size := by simp
  generalize w1.setCell ⟨w.heap.size + 1, 1, none⟩ (.slice a1 n c1) = V at *
  clear x0 x1 x2 f0 f1 f2 hR1 hT1 b1 o1 bE
  refine wp_loop (fun act wr => ∃ (k : Nat) (u8 u15 u16 u17 u18 u19 : Value), k ≤ nb ∧ act = { tmps := #[.slice a n cap, .int .i64 tx, .slice ab nb cb, undef, .pointer (some ⟨w.heap.size, 0, none⟩), undef, .pointer (some ⟨w.heap.size + 1, 0, none⟩), undef, u8, .slice a n cap, .slice a1 n c1, .pointer (some ⟨w.heap.size + 1, 1, none⟩), .slice ab nb cb, .int .i64 nb, .int .i64 k, u15, u16, u17, u18, u19, undef], defers := putOff (w.heap.size + 1) w.heap.size w1.heap.size k } ∧ wr.heap.size = w1.heap.size + k ∧ (∀ i, i < k → wr.heap[w1.heap.size + i]? = some (.cells #[.int .i64 (bs.getD i Ch.Bf.zero).k, .bool (bs.getD i Ch.Bf.zero).h, .int .i64 (bs.getD i Ch.Bf.zero).v] 32 (0, 0))) ∧ Below V.heap.size V wr) (fun act _ => nb - (intOf (act.tmps.getD 14 undef)).toNat) ⟨0, undef, undef, undef, undef, undef, undef, Nat.zero_le _, rfl, by simpa using hVs, fun i hi => absurd hi (by omega), Below.refl _ _⟩ ?_
  rintro act wr ⟨k, u8, u15, u16, u17, u18, u19, hk, rfl, hsz, hX, hB⟩
  have hbW := hBV.trans (hB.mono hBV.size)
  by_cases hlt : k < nb
  · obtain ⟨b, off, rfl, q0, q1, q2⟩ := (hb.below hbW).bef hlt
    have hbl := lt_of_cell q0
    have Hr := hid (rfl : bs.getD k Ch.Bf.zero = bs.getD k Ch.Bf.zero)
    generalize hr : bs.getD k Ch.Bf.zero = r at q0 q1 q2
    replace Hr := hid hr
    clear hr
    obtain ⟨rk, rh, rv⟩ := r
    simp only at q0 q1 q2
    have HXk : Hid (wr.heap.size = w1.heap.size + k) := hsz
    have HX := hid hX
    have hoff : putOff (w.heap.size + 1) w.heap.size w1.heap.size (k + 1) = { target := .fn (.func 114) #[.pointer (some ⟨w.heap.size + 1, 0, none⟩), .pointer (some ⟨w.heap.size, 0, none⟩), .pointer (some ⟨w1.heap.size + k, 0, none⟩)], args := #[] } :: putOff (w.heap.size + 1) w.heap.size w1.heap.size k := rfl
    have HO := hid hoff
    generalize putOff (w.heap.size + 1) w.heap.size w1.heap.size k = D at *
    clear hX hsz hoff
    go_wp2
    refine ⟨⟨k + 1, .pointer (some ⟨wr.heap.size, 0, none⟩), .bool true, .pointer (some ⟨b, off + k * 3, none⟩), .agg #[.int .i64 rk, .bool rh, .int .i64 rv], .func (.func 114) #[] #[.pointer (some ⟨w.heap.size + 1, 0, none⟩), .pointer (some ⟨w.heap.size, 0, none⟩), .pointer (some ⟨wr.heap.size, 0, none⟩)], .int .i64 ((k : Int) + 1), by omega, by rw [HO.out, ← HXk.out]; simp, by have := HXk.out; simp; omega, fun i hi => ?_, hB.alloc hB.size _⟩, by simp [intOf]; omega⟩
    by_cases hik : i = k
    · subst hik
      rw [Hr.out, ← HXk.out]
      exact heap_alloc_new wr _
    · exact (Below.heap_alloc wr _ _ (by have := HXk.out; omega)).trans (HX.out i (by omega))
  · obtain rfl : k = nb := by omega
    have hRW := block_below hB hRV
    have hTW := block_below hB hTV
    obtain ⟨x0, x1, x2, f0, f1, f2⟩ := rowThree hRW
    have hbl : bs.length = k := by have := HL.out; omega
    have hW6 := ((hbW.setCell (p := ⟨w.heap.size + 1, 0, none⟩) (Nat.le_succ _) (.int .i64 0)).setCell (p := ⟨w.heap.size + 1, 1, none⟩) (Nat.le_succ _) (.slice a1 n c1)).setCell (p := ⟨w.heap.size + 1, 2, none⟩) (Nat.le_succ _) (.slice none 0 0)
    have hV6 := fun j (hj : j ≠ w.heap.size + 1) => show ((((wr.setCell ⟨w.heap.size + 1, 0, none⟩ (.int .i64 0)).setCell ⟨w.heap.size + 1, 1, none⟩ (.slice a1 n c1)).setCell ⟨w.heap.size + 1, 2, none⟩ (.slice none 0 0)).heap[j]? = wr.heap[j]?) from by
      rw [Below.heap_setCell _ _ _ _ (by exact hj), Below.heap_setCell _ _ _ _ (by exact hj), Below.heap_setCell _ _ _ _ (by exact hj)]
    have o1W := (o1V.below hB)
    have o6 := ((o1W.store3 (q := w.heap.size + 1) (o := 0) (by simp) (.int .i64 0)).store3 (q := w.heap.size + 1) (o := 1) (by simp) (.slice a1 n c1)).store3 (q := w.heap.size + 1) (o := 2) (by simp) (.slice none 0 0)
    have hsW := hsz
    have hBs := hB.size
    go_wp2
    have hend := Ch.back_end (tx := tx) (ls := ls) (bs := bs) (k := bs.length) (Nat.le_refl _)
    rw [← hbl]
    refine leaves_back w.heap.size (w.heap.size + 1) w.heap.size w1.heap.size (w.heap.size + 2) k (Nat.le_succ _) tx ls bs hg (by omega) (by omega) (by omega) (by omega) (by omega) (by omega) _ _ w ?_ ?_ bs.length (Nat.le_refl _) _ a1 n c1 none 0 0 ?_ ((hV6 _ (by omega)).trans hTW) (fun i hi => (hV6 _ (by omega)).trans (hX i (by omega))) ?_ (fun g hg => by simp [Value.ownBlock] at hg) (by simp; omega) hW6 (by simp; omega) (Nat.le_refl _)
    · intro w' z0 z1' z2 hz
      obtain ⟨y0, y1, y2, _, _, _⟩ := rowThree hz
      simp [results, Try.results68, go_sem, y0, y1, y2]
    · intro w' a' m' cap' r' p' q' U' bel'
      exact ⟨a', m', cap', r', p', q', rfl, U'.base (by omega), bel'⟩
    · rw [hend]
      exact heap_three hRW _ _ _
    · rw [hend]
      have hl0 := owns_lt o6.2.1
      have hl1 := o6.lt
      refine ⟨vs, w.heap.size + 2, w1.heap.size + k, by simpa using o6, World.ownsRow_nil _ _ _ _, Nat.le_refl _, by simp; omega, fun g hg => ?_, fun i x g hx hg => ?_, fun g hg => by simp [Value.ownBlock] at hg⟩
      · have := hl0 g hg; simp at this; omega
      · have := hl1 i x g hx hg; simp at this; omega

set_option linter.unusedSimpArgs false in
set_option maxHeartbeats 4000000 in
theorem implUndoAll_any (a : Option Addr) (n cap : Nat) (tx : Int) (ab : Option Addr) (nb cb : Nat) (ls : List (List Ch.Row)) (bs : List Ch.Bf) (w : World) (h : LvAt w a n ls) (hs : Ch.lvSize ls ≤ 1048576) (hb : CellsAt w ab (nb * 3) (bfcells bs)) (hnb : nb ≤ 1048576) :
    Calls Try.prog 17 #[.slice a n cap, .int .i64 tx, .slice ab nb cb] w fun e w' => ∃ a' m c' r p q, e = .returned (.agg #[.int .i64 (Ch.undoR ls tx bs).1, .slice a' m c', .slice r p q]) ∧ OwnU w' w.heap.size (.slice a' m c') m (Ch.undoR ls tx bs).2.1 (.slice r p q) p (Ch.undoR ls tx bs).2.2 ∧ Below w.heap.size w w' := by
  have b0 : Below w.heap.size w (w.alloc (.cells #[.int .i64 0, .slice none 0 0, .slice none 0 0] 29)) := (Below.refl _ _).alloc (Nat.le_refl _) _
  have FI := fun W hW hb' => setFault_any a n cap tx ab nb cb ls bs W hW hs hb' hnb
  obtain ⟨c, HC⟩ : ∃ c, Hid (Ch.setF ls tx bs = c) := ⟨_, rfl⟩
  rw [HC.out] at FI
  by_cases h0 : c = 0
  · subst h0
    rw [Ch.undoR_ok HC.out]
    have hg := Ch.setF_leaves HC.out
    have hn40 : nb ≤ 40 := by have := Ch.setF_few HC.out; have := hb.bflen.out; omega
    have TI := fun W hW hb' => takenBack_any a n cap tx ab nb cb ls bs W hW hg hb' hn40
    generalize Ch.backAll tx ls bs = st at *
    clear HC hg
    go_enter Try.func17, Try.ntmps17
    go_wp2_with fail
    refine (FI _ (h.below b0) (hb.below b0)).mono ?_
    rintro e w1 ⟨rfl, b1⟩
    obtain ⟨x0, x1, x2, f0, f1, f2⟩ := three_box b1
    have hz := lt_of_cell x0
    have bE := b0.trans (b1.mono b0.size)
    clear b1 FI
    go_wp2_with fail
    refine (TI _ (h.below bE) (hb.below bE)).mono ?_
    rintro e w2 ⟨a2, m2, c2, r2, p2, q2, rfl, U2, b2⟩
    replace x0 := keep_cell b2 x0
    replace x1 := keep_cell b2 x1
    replace x2 := keep_cell b2 x2
    replace f0 := ((bcell b2).2 w.heap.size 0 hz).trans f0
    replace f1 := ((bcell b2).2 w.heap.size 1 hz).trans f1
    replace f2 := ((bcell b2).2 w.heap.size 2 hz).trans f2
    have bF := bE.trans (b2.mono bE.size)
    go_wp2
    refine bodyPost_ret (v := .agg #[.int .i64 st.1, .slice a2 m2 c2, .slice r2 p2 q2]) (by simp [results, Try.results17, go_sem, x0, x1, x2]) rfl ⟨a2, m2, c2, r2, p2, q2, rfl, ?_, ((bF.setCell (p := ⟨w.heap.size, 0, none⟩) (Nat.le_refl _) _).setCell (p := ⟨w.heap.size, 1, none⟩) (Nat.le_refl _) _).setCell (p := ⟨w.heap.size, 2, none⟩) (Nat.le_refl _) _⟩
    exact (((U2.low hz _).low hz _).low hz _).base (Nat.le_of_lt hz)
  · have hc : (c != 0) = true := by simpa using h0
    rw [Ch.undoR_code HC.out hc]
    clear HC
    go_enter Try.func17, Try.ntmps17
    go_wp2_with fail
    refine (FI _ (h.below b0) (hb.below b0)).mono ?_
    rintro e w1 ⟨rfl, b1⟩
    obtain ⟨x0, x1, x2, f0, f1, f2⟩ := three_box b1
    have hz := lt_of_cell x0
    have bE := b0.trans (b1.mono b0.size)
    clear b1 FI
    go_wp2
    exact bodyPost_ret (v := .agg #[.int .i64 c, .slice none 0 0, .slice none 0 0]) (by simp [results, Try.results17, go_sem, x0, x1, x2]) rfl ⟨none, 0, 0, none, 0, 0, rfl, OwnU.none _ _, ((bE.setCell (p := ⟨w.heap.size, 0, none⟩) (Nat.le_refl _) _).setCell (p := ⟨w.heap.size, 1, none⟩) (Nat.le_refl _) _).setCell (p := ⟨w.heap.size, 2, none⟩) (Nat.le_refl _) _⟩
end Go.Proofs.Ythfanfnbjldddaa

