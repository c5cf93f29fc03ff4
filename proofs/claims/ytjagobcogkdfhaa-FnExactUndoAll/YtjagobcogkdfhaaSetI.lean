
/- SetValue of the program. -/
import Derived.Test.YtjagobcogkdfhaaSetM
import Derived.Test.YtjagobcogkdfhaaBVZ
import Derived.Test.YtjagobcogkdfhaaPutH
import Derived.Test.YtjagobcogkdfhaaDPZ
import Derived.Test.YtjagobcogkdfhaaRcA
import Derived.Test.YtjagobcogkdfhaaSWZ
import Derived.Test.YtjagobcogkdfhaaCln0
namespace Go.Proofs.Ytjagobcogkdfhaa
open Go.RowKit

/-- Leaves and records, apart: the leaves lie from lo to hi, the records don't. -/
def OwnU (w : World) (B : Nat) (lv : Value) (m : Nat) (ls : List (List Ch.Row)) (rv : Value) (p : Nat) (rs : List Ch.Rec) : Prop :=
  ∃ vs lo hi, OwnV w B lv m vs ls ∧ w.ownsRow B 71 7 rv p (rc7 rs) ∧ B ≤ lo ∧ hi ≤ w.heap.size ∧ (∀ g, lv.ownBlock = some g → lo ≤ g ∧ g < hi) ∧ (∀ (i : Nat) (x : Value) (g : Nat), vs[i]? = some x → x.ownBlock = some g → lo ≤ g ∧ g < hi) ∧ (∀ g, rv.ownBlock = some g → g < lo ∨ hi ≤ g)
theorem OwnU.below {w w' : World} {B m p : Nat} {lv rv : Value} {ls : List (List Ch.Row)} {rs : List Ch.Rec} (h : OwnU w B lv m ls rv p rs) (hb : Below w.heap.size w w') : OwnU w' B lv m ls rv p rs := by
  obtain ⟨vs, lo, hi, h1, h2, h3, h4, h5⟩ := h
  exact ⟨vs, lo, hi, h1.below hb, owns_below h2 hb, h3, Nat.le_trans h4 hb.size, h5⟩
theorem OwnU.base {w : World} {B B' m p : Nat} {lv rv : Value} {ls : List (List Ch.Row)} {rs : List Ch.Rec} (h : OwnU w B lv m ls rv p rs) (hb : B' ≤ B) : OwnU w B' lv m ls rv p rs := by
  obtain ⟨vs, lo, hi, h1, h2, h3, h4, h5⟩ := h
  exact ⟨vs, lo, hi, h1.base hb, owns_base h2 hb, Nat.le_trans hb h3, h4, h5⟩
theorem OwnU.none (w : World) (B : Nat) : OwnU w B (.slice none 0 0) 0 [] (.slice none 0 0) 0 [] := by
  refine ⟨[], B, 0, ⟨rfl, World.ownsRow_nil _ _ _ _, fun i hi => absurd hi (by omega), fun i j x y g _ hx => by simp at hx, fun i x g hx => by simp at hx⟩, World.ownsRow_nil _ _ _ _, Nat.le_refl _, Nat.zero_le _, fun g hg => by simp [Value.ownBlock] at hg, fun i x g hx => by simp at hx, fun g hg => by simp [Value.ownBlock] at hg⟩
theorem OwnU.len {w : World} {B m p : Nat} {lv rv : Value} {ls : List (List Ch.Row)} {rs : List Ch.Rec} (h : OwnU w B lv m ls rv p rs) : m = ls.length ∧ p = rs.length := by
  obtain ⟨vs, lo, hi, h1, h2, _⟩ := h
  refine ⟨h1.1.symm, ?_⟩
  have := h2.1
  rw [rc7_len] at this
  omega
theorem OwnU.lv {w : World} {B m p cap : Nat} {a : Option Addr} {rv : Value} {ls : List (List Ch.Row)} {rs : List Ch.Rec} (h : OwnU w B (.slice a m cap) m ls rv p rs) (hs : Ch.lvSize ls ≤ 1048576) : LvAt w a m ls := by
  obtain ⟨vs, lo, hi, h1, _⟩ := h
  exact h1.own.at (small_at hs)
theorem OwnU.rc {w : World} {B m p q : Nat} {r : Option Addr} {lv : Value} {ls : List (List Ch.Row)} {rs : List Ch.Rec} (h : OwnU w B lv m ls (.slice r p q) p rs) : CellsAt w r (p * 7) (rc7 rs) := by
  obtain ⟨vs, lo, hi, _, h2, _⟩ := h
  exact owns_cells h2
/-- One record that was just made, behind the leaves. -/
theorem own_rec {W : World} {B H : Nat} (r : Ch.Rec) (hH : H = W.heap.size) (hB : B ≤ W.heap.size) : (W.alloc (.cells #[.int .i64 r.kd, .int .i64 r.tx, .int .i64 r.ky, .bool r.hd, .int .i64 r.ol, .bool r.hs, .int .i64 r.nw] 71)).ownsRow B 71 7 (.slice (some ⟨H, 0, none⟩) 1 1) 1 (rc7 [r]) := by
  subst hH
  exact World.ownsRow_lit W #[.int .i64 r.kd, .int .i64 r.tx, .int .i64 r.ky, .bool r.hd, .int .i64 r.ol, .bool r.hs, .int .i64 r.nw] 1 hB (by unfold maxLen; omega) rfl
theorem OwnV.apart {w : World} {B m H : Nat} {lv : Value} {vs : List Value} {ls : List (List Ch.Row)} (h : OwnV w B lv m vs ls) (hH : w.heap.size ≤ H) : lv.ownBlock ≠ some H ∧ ∀ (i : Nat) (x : Value), vs[i]? = some x → x.ownBlock ≠ some H := by
  refine ⟨fun hb => ?_, fun i x hx hb => ?_⟩
  · have := (owns_lt h.2.1 H hb).2; omega
  · have := (h.lt i x H hx hb).2; omega

set_option maxHeartbeats 400000 in
theorem setFault_any (a : Option Addr) (n cap : Nat) (tx : Int) (ab : Option Addr) (nb cb : Nat) (ls : List (List Ch.Row)) (bs : List Ch.Bf) (w : World) (h : LvAt w a n ls) (hs : Ch.lvSize ls ≤ 1048576) (hb : CellsAt w ab (nb * 3) (bfcells bs)) (hnb : nb ≤ 1048576) :
    Calls Try.prog 107 #[.slice a n cap, .int .i64 tx, .slice ab nb cb] w fun e w' => e = .returned (.int .i64 (Ch.setF ls tx bs)) ∧ Below w.heap.size w w' := by
  have LI := fun W hW => implLeaves_any a n cap ls W hW hs
  have BI := fun W hW => implBefores_any ab nb cb bs W hW hnb
  have IT := fun W => isTxn_any tx W
  have HR : Hid (Ch.setF ls tx bs = if Ch.leavesFault ls != 0 then Ch.leavesFault ls else if Ch.inB tx 1 999 then Ch.befFault bs else 3) := rfl
  generalize Ch.leavesFault ls = c at *
  generalize Ch.befFault bs = d at *
  by_cases h0 : c = 0
  · subst h0
    cases ht : Ch.inB tx 1 999
    · rw [ht] at IT HR
      go_enter Try.func107, Try.ntmps107
      go_wp2_with fail
      refine (LI _ h).mono ?_
      rintro e w1 ⟨rfl, b1⟩
      go_wp2_with (go_at_call 119; refine (IT _).mono ?_; rintro e w' ⟨rfl, rfl⟩)
      go_ret
      exact ⟨ret_int HR.out.symm, b1⟩
    · rw [ht] at IT HR
      go_enter Try.func107, Try.ntmps107
      go_wp2_with fail
      refine (LI _ h).mono ?_
      rintro e w1 ⟨rfl, b1⟩
      go_wp2_with fail
      refine (IT _).mono ?_
      rintro e w' ⟨rfl, rfl⟩
      go_wp2_with fail
      refine (BI _ (hb.below b1)).mono ?_
      rintro e w2 ⟨rfl, b2⟩
      go_wp2
      go_ret
      exact ⟨ret_int HR.out.symm, b1.trans (b2.mono b1.size)⟩
  · have hc : (c != 0) = true := by simpa using h0
    rw [hc] at HR
    go_enter Try.func107, Try.ntmps107
    go_wp2_with fail
    refine (LI _ h).mono ?_
    rintro e w1 ⟨rfl, b1⟩
    go_wp2
    go_ret
    exact ⟨ret_int HR.out.symm, b1⟩


set_option linter.unusedSimpArgs false in
set_option maxHeartbeats 2000000 in
theorem putValue_any (a : Option Addr) (n cap : Nat) (key : Int) (has : Bool) (v : Int) (ls : List (List Ch.Row)) (w : World) (h : LvAt w a n ls) (hg : Ch.leavesFault ls = 0) (hk : Ch.inB key 0 99 = true) (hv : Ch.inB v 0 9999 = true) :
    Calls Try.prog 108 #[.slice a n cap, .int .i64 key, .bool has, .int .i64 v] w fun e w' => ∃ a' m c', e = .returned (.agg #[.int .i64 (Ch.setLs ls key has v).1, .slice a' m c']) ∧ OwnLv w' w.heap.size (.slice a' m c') m (Ch.setLs ls key has v).2 ∧ Below w.heap.size w w' := by
  have hs := Ch.good_size hg
  have b0 : Below w.heap.size w (w.alloc (.cells #[.int .i64 0, .slice none 0 0] 145)) := (Below.refl _ _).alloc (Nat.le_refl _) _
  have PI := fun W rv rg hW => implPutRow_any a n cap ls key rv rg W hW hs
  cases has
  · have FI := fun W hW => implFindRow_any a n cap key ls W hW hs
    have hfd : ∀ (x : Int) (y : Value) W, (Instr.field 29 (.agg #[.int .i64 x, y]) 0).run Try.prog W = .ok (.int .i64 x) W := fun _ _ _ => by kernel_rfl
    have ha := Ch.asked_of hg hk
    cases hf : Ch.findR ls key with
    | none =>
      rw [Ch.setLs_none hf]
      rw [Ch.findRR_none (by rw [ha]; rfl) hf] at FI
      have CI := fun W hW => cloneLeavesAll_any a n cap ls W hW hs (good_leaves (key := key) h.len.out (by rw [ha]; rfl))
      clear PI ha hf
      go_enter Try.func108, Try.ntmps108
      go_wp2_with fail
      refine (FI _ (h.below b0)).mono ?_
      rintro e w1 ⟨a1, m1, c1, rfl, hm1, own1, b1⟩
      obtain ⟨x0, x1, f0, f1⟩ := two_box b1
      have hz := lt_of_cell x0
      have bE := b0.trans (b1.mono b0.size)
      clear FI own1 b1
      go_wp2_with fail
      refine (CI _ (h.below bE)).mono ?_
      rintro e w2 ⟨a2, c2, rfl, own2, b2⟩
      replace x0 := keep_cell b2 x0
      replace x1 := keep_cell b2 x1
      replace f0 := ((bcell b2).2 w.heap.size 0 hz).trans f0
      replace f1 := ((bcell b2).2 w.heap.size 1 hz).trans f1
      have bF := bE.trans (b2.mono bE.size)
      obtain ⟨vs, own2⟩ := own2.told
      have st := (own2.store (p := w.heap.size) (o := 0) (u := .int .i64 0) (fun g hg => by have := (owns_lt own2.2.1 g hg).1; omega) (fun i x g hx hg => by have := (own2.lt i x g hx hg).1; omega)).store (p := w.heap.size) (o := 1) (u := .slice a2 n c2) (fun g hg => by have := (owns_lt own2.2.1 g hg).1; omega) (fun i x g hx hg => by have := (own2.lt i x g hx hg).1; omega)
      go_wp2
      exact bodyPost_ret (v := .agg #[.int .i64 0, .slice a2 n c2]) (by simp [results, Try.results108, go_sem, x0, x1]) rfl ⟨a2, n, c2, rfl, (st.base bE.size).own, (bF.setCell (p := ⟨w.heap.size, 0, none⟩) (Nat.le_refl _) _).setCell (p := ⟨w.heap.size, 1, none⟩) (Nat.le_refl _) _⟩
    | some r =>
      have hi : (Ch.findR ls key).isSome = true := by rw [hf]; rfl
      rw [Ch.setLs_ghost hg hk hi]
      rw [Ch.findRR_some (by rw [ha]; rfl) hf] at FI
      replace PI := fun W hW => PI W 0 true hW
      generalize Ch.putR ls ⟨key, 0, true⟩ = X at *
      obtain ⟨c, rl⟩ := X
      clear ha hf hi
      go_enter Try.func108, Try.ntmps108
      go_wp2_with fail
      refine (FI _ (h.below b0)).mono ?_
      rintro e w1 ⟨a1, m1, c1, rfl, hm1, own1, b1⟩
      obtain ⟨x0, x1, f0, f1⟩ := two_box b1
      have hz := lt_of_cell x0
      have bE := b0.trans (b1.mono b0.size)
      clear FI own1 b1
      go_wp2_with fail
      refine (PI _ (h.below bE)).mono ?_
      rintro e w2 ⟨a2, m2, c2, rfl, own2, b2⟩
      replace x0 := keep_cell b2 x0
      replace x1 := keep_cell b2 x1
      replace f0 := ((bcell b2).2 w.heap.size 0 hz).trans f0
      replace f1 := ((bcell b2).2 w.heap.size 1 hz).trans f1
      have bF := bE.trans (b2.mono bE.size)
      obtain ⟨vs, own2⟩ := own2.told
      have st := (own2.store (p := w.heap.size) (o := 0) (u := .int .i64 c) (fun g hg => by have := (owns_lt own2.2.1 g hg).1; omega) (fun i x g hx hg => by have := (own2.lt i x g hx hg).1; omega)).store (p := w.heap.size) (o := 1) (u := .slice a2 m2 c2) (fun g hg => by have := (owns_lt own2.2.1 g hg).1; omega) (fun i x g hx hg => by have := (own2.lt i x g hx hg).1; omega)
      go_wp2
      exact bodyPost_ret (v := .agg #[.int .i64 c, .slice a2 m2 c2]) (by simp [results, Try.results108, go_sem, x0, x1]) rfl ⟨a2, m2, c2, rfl, (st.base bE.size).own, (bF.setCell (p := ⟨w.heap.size, 0, none⟩) (Nat.le_refl _) _).setCell (p := ⟨w.heap.size, 1, none⟩) (Nat.le_refl _) _⟩
  · rw [Ch.setLs_has hg hk hv]
    replace PI := fun W hW => PI W v false hW
    generalize Ch.putR ls ⟨key, v, false⟩ = X at *
    obtain ⟨c, rl⟩ := X
    go_enter Try.func108, Try.ntmps108
    go_wp2_with fail
    refine (PI _ (h.below b0)).mono ?_
    rintro e w2 ⟨a2, m2, c2, rfl, own2, b2⟩
    obtain ⟨x0, x1, f0, f1⟩ := two_box b2
    have hz := lt_of_cell x0
    have bF := b0.trans (b2.mono b0.size)
    obtain ⟨vs, own2⟩ := own2.told
    have hbs : w.heap.size < (w.alloc (.cells #[.int .i64 0, .slice none 0 0] 145)).heap.size := by simp
    have st := (own2.store (p := w.heap.size) (o := 0) (u := .int .i64 c) (fun g hg => by have := (owns_lt own2.2.1 g hg).1; omega) (fun i x g hx hg => by have := (own2.lt i x g hx hg).1; omega)).store (p := w.heap.size) (o := 1) (u := .slice a2 m2 c2) (fun g hg => by have := (owns_lt own2.2.1 g hg).1; omega) (fun i x g hx hg => by have := (own2.lt i x g hx hg).1; omega)
    go_wp2
    exact bodyPost_ret (v := .agg #[.int .i64 c, .slice a2 m2 c2]) (by simp [results, Try.results108, go_sem, x0, x1]) rfl ⟨a2, m2, c2, rfl, (st.base b0.size).own, (bF.setCell (p := ⟨w.heap.size, 0, none⟩) (Nat.le_refl _) _).setCell (p := ⟨w.heap.size, 1, none⟩) (Nat.le_refl _) _⟩
end Go.Proofs.Ytjagobcogkdfhaa
