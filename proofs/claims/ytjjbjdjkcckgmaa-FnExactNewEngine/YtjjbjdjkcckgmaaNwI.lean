
/- A new store: the program. -/
import Derived.Test.YtjjbjdjkcckgmaaEnK
import Derived.Test.YtjjbjdjkcckgmaaPutH
namespace Go.Proofs.Ytjjbjdjkcckgmaa
open Go.RowKit

theorem row15 {W : World} {g : Nat} {t : TypeId} {u0 u1 u2 u3 u4 u5 u6 u7 u8 u9 u10 u11 u12 u13 u14 : Value} (h : W.heap[g]? = some (.cells #[u0, u1, u2, u3, u4, u5, u6, u7, u8, u9, u10, u11, u12, u13, u14] t (0, 0))) :
    W.cell? ⟨g, 0, none⟩ = some u0 ∧ W.cell? ⟨g, 1, none⟩ = some u1 ∧ W.cell? ⟨g, 2, none⟩ = some u2 ∧ W.cell? ⟨g, 3, none⟩ = some u3 ∧ W.cell? ⟨g, 4, none⟩ = some u4 ∧ W.cell? ⟨g, 5, none⟩ = some u5 ∧ W.cell? ⟨g, 6, none⟩ = some u6 ∧ W.cell? ⟨g, 7, none⟩ = some u7 ∧ W.cell? ⟨g, 8, none⟩ = some u8 ∧ W.cell? ⟨g, 9, none⟩ = some u9 ∧ W.cell? ⟨g, 10, none⟩ = some u10 ∧ W.cell? ⟨g, 11, none⟩ = some u11 ∧ W.cell? ⟨g, 12, none⟩ = some u12 ∧ W.cell? ⟨g, 13, none⟩ = some u13 ∧ W.cell? ⟨g, 14, none⟩ = some u14 ∧ ∀ i, W.frozen? ⟨g, i, none⟩ = false :=
  ⟨cell_of_row _ _ _ _ _ _ h, cell_of_row _ _ _ _ _ _ h, cell_of_row _ _ _ _ _ _ h, cell_of_row _ _ _ _ _ _ h, cell_of_row _ _ _ _ _ _ h, cell_of_row _ _ _ _ _ _ h, cell_of_row _ _ _ _ _ _ h, cell_of_row _ _ _ _ _ _ h, cell_of_row _ _ _ _ _ _ h, cell_of_row _ _ _ _ _ _ h, cell_of_row _ _ _ _ _ _ h, cell_of_row _ _ _ _ _ _ h, cell_of_row _ _ _ _ _ _ h, cell_of_row _ _ _ _ _ _ h, cell_of_row _ _ _ _ _ _ h, fun i => by simp [World.frozen?, h]⟩
theorem gr_reflN (w : World) (row : Option Nat) : w.grownBy w row := ⟨rfl, rfl, rfl, Nat.le_refl _, fun _ _ _ => rfl⟩
theorem gr_setN {w w' : World} {s o : Nat} {v : Value} (h : w.grownBy w' (some s)) : w.grownBy (w'.setCell ⟨s, o, none⟩ v) (some s) :=
  ⟨h.os, h.tape, h.output, by simpa [World.setCell] using h.size, fun k hk hne => (Below.heap_setCell _ _ _ _ (by intro e; exact hne (by rw [e]))).trans (h.block k hk hne)⟩

/-- What a new store is. -/
def NewE (rs : List Ch.Row) (w : World) (e : Ending) (w' : World) : Prop :=
  ∃ a n c l m d vs H1, e = .returned (.agg #[.int .i64 (Ch.newR rs).1, .bool false, .int .i64 0, .slice none 0 0, .slice none 0 0, (.slice a n c), (.slice l m d), .slice none 0 0, .slice none 0 0, .slice none 0 0, .slice none 0 0, .slice none 0 0, .bool false, .slice none 0 0, .slice none 0 0]) ∧ n ≤ 1048576 ∧ w.heap.size ≤ H1 ∧ H1 ≤ w'.heap.size ∧ w'.ownsRow H1 49 3 (.slice a n c) n (rcells (Ch.newR rs).2.1) ∧ OwnV w' w.heap.size (.slice l m d) m vs (Ch.newR rs).2.2 ∧
    (∀ g, (Value.slice l m d).ownBlock = some g → w.heap.size ≤ g ∧ g < H1) ∧ (∀ (i : Nat) (x : Value) (g : Nat), vs[i]? = some x → x.ownBlock = some g → w.heap.size ≤ g ∧ g < H1) ∧ Below w.heap.size w w'
theorem ownV_nil (w : World) (B : Nat) : OwnV w B (.slice none 0 0) 0 [] [] :=
  ⟨rfl, World.ownsRow_nil _ _ _ _, fun i hi => by omega, fun i j x y g _ hx => by simp at hx, fun i x g hx => by simp at hx⟩
theorem OwnV.baseV {w : World} {B B' n : Nat} {v : Value} {vs : List Value} {ls : List (List Ch.Row)} (h : OwnV w B v n vs ls) (hb : B' ≤ B) : OwnV w B' v n vs ls := by
  obtain ⟨hl, ho, hi, hd, hd'⟩ := h
  refine ⟨hl, owns_base ho hb, fun i hlt => ?_, hd, hd'⟩
  obtain ⟨x, a, b⟩ := hi i hlt
  exact ⟨x, a, owns_base b hb⟩
theorem NewE.ok {rs : List Ch.Row} {ls : List (List Ch.Row)} {w w' : World} {a l : Option Addr} {n c m d H1 : Nat} {vs : List Value} (h : Ch.newR rs = (0, rs, ls)) (hn : n ≤ 1048576) (h1 : w.heap.size ≤ H1) (h2 : H1 ≤ w'.heap.size) (h3 : w'.ownsRow H1 49 3 (.slice a n c) n (rcells rs)) (h4 : OwnV w' w.heap.size (.slice l m d) m vs ls)
    (h5 : ∀ g, (Value.slice l m d).ownBlock = some g → w.heap.size ≤ g ∧ g < H1) (h6 : ∀ (i : Nat) (x : Value) (g : Nat), vs[i]? = some x → x.ownBlock = some g → w.heap.size ≤ g ∧ g < H1) (h7 : Below w.heap.size w w') : NewE rs w (.returned (.agg #[.int .i64 0, .bool false, .int .i64 0, .slice none 0 0, .slice none 0 0, (.slice a n c), (.slice l m d), .slice none 0 0, .slice none 0 0, .slice none 0 0, .slice none 0 0, .slice none 0 0, .bool false, .slice none 0 0, .slice none 0 0])) w' := by
  unfold NewE
  rw [h]
  exact ⟨a, n, c, l, m, d, vs, H1, rfl, hn, h1, h2, h3, h4, h5, h6, h7⟩
theorem NewE.code {rs : List Ch.Row} {w w' : World} {c : Int} (h : Ch.newR rs = (c, [], [])) (hb : Below w.heap.size w w') : NewE rs w (.returned (.agg #[.int .i64 c, .bool false, .int .i64 0, .slice none 0 0, .slice none 0 0, .slice none 0 0, .slice none 0 0, .slice none 0 0, .slice none 0 0, .slice none 0 0, .slice none 0 0, .slice none 0 0, .bool false, .slice none 0 0, .slice none 0 0])) w' := by
  unfold NewE
  rw [h]
  exact ⟨none, 0, 0, none, 0, 0, [], w'.heap.size, rfl, by omega, hb.size, Nat.le_refl _, World.ownsRow_nil _ _ _ _, ownV_nil _ _, fun g hg => by simp [Value.ownBlock] at hg, fun i x g hx => by simp at hx, hb⟩

set_option linter.unusedSimpArgs false in
set_option maxRecDepth 20000 in
set_option maxHeartbeats 4000000 in
theorem implNew_any (ad : Addr) (n cap : Nat) (rs : List Ch.Row) (w : World) (h : CellsAt w (some ad) (n * 3) (rcells rs)) (hn : n ≤ 1048576) :
    Calls Try.prog 7 #[.slice (some ad) n cap] w fun e w' => NewE rs w e w' := by
  have kA : ∀ o, Below w.heap.size w (w.alloc o) := fun o => (Below.refl _ _).alloc (Nat.le_refl _) o
  have HL := h.rlen
  have IB := fun W hW => implBase_any (some ad) n cap rs W hW hn
  obtain ⟨c, HC⟩ : ∃ c, Hid (Ch.baseF rs = c) := ⟨_, rfl⟩
  rw [HC.out] at IB
  by_cases h0 : c = 0
  rotate_left
  · have hc : (c != 0) = true := by simpa using h0
    have HN := hid (Ch.newR_bad HC.out hc)
    clear HC h0 HL
    go_enter Try.func7, Try.ntmps7
    go_wp2_with fail
    refine (IB _ (h.below (kA _))).mono ?_
    rintro e w1 ⟨rfl, b1⟩
    have hR := block_below b1 (heap_alloc_new w (.cells #[.int .i64 0, .bool false, .int .i64 0, .slice none 0 0, .slice none 0 0, .slice none 0 0, .slice none 0 0, .slice none 0 0, .slice none 0 0, .slice none 0 0, .slice none 0 0, .slice none 0 0, .bool false, .slice none 0 0, .slice none 0 0] 37))
    have b1' := (kA _).trans (b1.mono (by simp))
    obtain ⟨x0, x1, x2, x3, x4, x5, x6, x7, x8, x9, x10, x11, x12, x13, x14, hfz⟩ := row15 hR
    clear IB b1 hR
    go_wp2
    refine bodyPost_ret (v := .agg #[.int .i64 c, .bool false, .int .i64 0, .slice none 0 0, .slice none 0 0, .slice none 0 0, .slice none 0 0, .slice none 0 0, .slice none 0 0, .slice none 0 0, .slice none 0 0, .slice none 0 0, .bool false, .slice none 0 0, .slice none 0 0]) (by simp [results, Try.results7, go_sem, x0, x1, x2, x3, x4, x5, x6, x7, x8, x9, x10, x11, x12, x13, x14]) rfl (NewE.code HN.out ?_)
    refine b1'.grown (row := some w.heap.size) ?_ b1'.size (fun g hg => by cases hg; exact Nat.le_refl _)
    repeat (first | with_reducible exact gr_reflN _ _ | with_reducible refine gr_setN ?_)
  subst h0
  have hn4 : n ≤ 240 := by have := (Ch.base_zero HC.out).2.1; have := HL.out; omega
  have IC := fun W hW => cloneRows_any ad n cap rs W hW hn
  go_enter Try.func7, Try.ntmps7
  go_wp2_with fail
  refine (IB _ (h.below (kA _))).mono ?_
  rintro e w1 ⟨rfl, b1⟩
  have hR := block_below b1 (heap_alloc_new w (.cells #[.int .i64 0, .bool false, .int .i64 0, .slice none 0 0, .slice none 0 0, .slice none 0 0, .slice none 0 0, .slice none 0 0, .slice none 0 0, .slice none 0 0, .slice none 0 0, .slice none 0 0, .bool false, .slice none 0 0, .slice none 0 0] 37))
  have b1' := (kA _).trans (b1.mono (by simp))
  clear IB b1
  go_wp2_with fail
  go_loopw [4, 16] (fun q i wr => ∃ (k m d : Nat) (a' : Option Addr), k ≤ n ∧ i = .int .i64 k ∧ q = .slice a' m d ∧ Hid (Ch.roomN rs k) ∧ OwnLv wr (w.heap.size + 1) (.slice a' m d) m (Ch.putN rs k) ∧ wr.heap[w.heap.size]? = some (.cells #[.int .i64 0, .bool false, .int .i64 0, .slice none 0 0, .slice none 0 0, .slice none 0 0, .slice none 0 0, .slice none 0 0, .slice none 0 0, .slice none 0 0, .slice none 0 0, .slice none 0 0, .bool false, .slice none 0 0, .slice none 0 0] 37 (0, 0)) ∧ Below w.heap.size w wr) (fun _ i _ => n - (intOf i).toNat)
  case atStart => exact ⟨0, 0, 0, none, Nat.zero_le _, rfl, rfl, hid (Ch.room_zero rs), (ownV_nil _ _).own, hR, b1'⟩
  case round =>
    clear hR b1'
    obtain ⟨k, m, d, a', hk, rfl, rfl, HRM, own, hR, hB⟩ := hrel
    have lR := (Array.getElem?_eq_some_iff.1 hR).1
    have HG := hid (Ch.putN_good HC.out k (by have := HL.out; omega) HRM.out)
    by_cases hlt : k < n
    · have hkl : k < rs.length := by have := HL.out; omega
      have HST := hid (Ch.putR_step HC.out hkl HRM.out)
      have HMA := hid (fun hl => Ch.newR_many HC.out hkl hl)
      have HNX := hid (fun hl => Ch.room_next HRM.out hl)
      have hAt : LvAt wr a' m (Ch.putN rs k) := own.at (fun i => by have := Ch.lv_leaf (show Ch.lvSize (Ch.putN rs k) ≤ 1048576 by have := Ch.good_size HG.out; omega) i; omega)
      have hsz : Ch.lvSize (Ch.putN rs k) ≤ 1048576 := by have := Ch.good_size HG.out; omega
      obtain ⟨b, off, hao, hc0, hc1, hc2⟩ := (h.below hB).row hlt
      have hbl := lt_of_cell hc0
      generalize rs.getD k Ch.Row.zero = r at *
      obtain ⟨rk, rv, rg⟩ := r
      simp only at hc0 hc1 hc2
      simp only [Option.some.injEq] at hao
      subst hao
      have kQ : Below wr.heap.size wr (wr.alloc (.cells #[.int .i64 rk, .int .i64 rv, .bool rg] 49)) := (Below.refl _ _).alloc (Nat.le_refl _) _
      have IP := implPutRow_any a' m d (Ch.putN rs k) rk rv rg (wr.alloc (.cells #[.int .i64 rk, .int .i64 rv, .bool rg] 49)) (hAt.below kQ) hsz
      rw [HST.out] at IP
      have hR7 := block_below kQ hR
      by_cases hbig : 60 < (Ch.putN rs (k + 1)).length
      · rw [if_pos hbig] at IP
        have HN := hid (HMA.out hbig)
        dsimp only at IP
        clear HMA HNX HST HG HRM own hAt hsz hbig
        go_wp2_with fail
        refine IP.mono ?_
        rintro e w2 ⟨a2, m2, c2, rfl, own2, b2⟩
        have k2 := kQ.trans (b2.mono (by simp))
        have hR2 := block_below k2 hR
        have b2' := hB.trans (k2.mono hB.size)
        have kL : Below w2.heap.size w2 (w2.alloc (.cells #[.int .i64 2, .slice a2 m2 c2] 53)) := (Below.refl _ _).alloc (Nat.le_refl _) _
        have hR3 := block_below kL hR2
        have b3 := b2'.trans (kL.mono b2'.size)
        have y0 : (w2.alloc (.cells #[.int .i64 2, .slice a2 m2 c2] 53)).cell? ⟨w2.heap.size, 0, none⟩ = some (.int .i64 2) := by go_simp
        clear IP b2 own2 hR hR7 kQ k2 hR2 kL
        go_upto_region 9 with fail
        generalize w2.alloc (.cells #[.int .i64 2, .slice a2 m2 c2] 53) = w3 at *
        obtain ⟨x0, x1, x2, x3, x4, x5, x6, x7, x8, x9, x10, x11, x12, x13, x14, hfz⟩ := row15 hR3
        go_wp2
        refine bodyPost_ret (v := .agg #[.int .i64 2, .bool false, .int .i64 0, .slice none 0 0, .slice none 0 0, .slice none 0 0, .slice none 0 0, .slice none 0 0, .slice none 0 0, .slice none 0 0, .slice none 0 0, .slice none 0 0, .bool false, .slice none 0 0, .slice none 0 0]) (by simp [results, Try.results7, go_sem, x0, x1, x2, x3, x4, x5, x6, x7, x8, x9, x10, x11, x12, x13, x14]) rfl (NewE.code HN.out ?_)
        refine b3.grown (row := some w.heap.size) ?_ b3.size (fun g hg => by cases hg; exact Nat.le_refl _)
        repeat (first | with_reducible exact gr_reflN _ _ | with_reducible refine gr_setN ?_)
      · rw [if_neg hbig] at IP
        have HN := hid (HNX.out hbig)
        dsimp only at IP
        clear HMA HNX HST HG HRM hAt hsz hbig own
        go_wp2_with fail
        refine IP.mono ?_
        rintro e w2 ⟨a2, m2, c2, rfl, own2, b2⟩
        have k2 := kQ.trans (b2.mono (by simp))
        have hR2 := block_below k2 hR
        have b2' := hB.trans (k2.mono hB.size)
        have kL : Below w2.heap.size w2 (w2.alloc (.cells #[.int .i64 0, .slice a2 m2 c2] 53)) := (Below.refl _ _).alloc (Nat.le_refl _) _
        have own3 := (own2.below kL).base (B' := w.heap.size + 1) (by simp; omega)
        have hR3 := block_below kL hR2
        have b3 := b2'.alloc b2'.size (.cells #[.int .i64 0, .slice a2 m2 c2] 53)
        clear IP b2 hR hR7 kQ k2 hR2 own2 kL
        go_wp2
        go_roundw
        case rel => exact ⟨k + 1, m2, c2, a2, by omega, by go_num, rfl, HN, own3, hR3, b3⟩
        case measure => simp [intOf]; omega
    · obtain rfl : k = n := by omega
      have HN := hid (Ch.newR_ok HC.out (by have := HL.out; rw [← this]; exact HRM.out))
      rw [← HL.out] at HN
      obtain ⟨vs, ownV⟩ := own.told
      have hlf := ownV.lt
      have hll := fun g hg => owns_lt ownV.2.1 g hg
      have IC2 := IC wr (h.below hB)
      clear IC HC HRM HG own
      go_wp2_with fail
      refine IC2.mono ?_
      rintro e w2 ⟨a2, c2, rfl, o2, b2⟩
      have hR2 := block_below b2 hR
      have b2' := hB.trans (b2.mono hB.size)
      have V2 := ownV.below b2
      obtain ⟨x0, x1, x2, x3, x4, x5, x6, x7, x8, x9, x10, x11, x12, x13, x14, hfz⟩ := row15 hR2
      have lz := (Array.getElem?_eq_some_iff.1 hR2).1
      have hs2 := b2.size
      clear IC2 b2 hR hR2 ownV
      go_wp2
      refine bodyPost_ret (v := .agg #[.int .i64 0, .bool false, .int .i64 0, .slice none 0 0, .slice none 0 0, (.slice a2 k c2), (.slice a' m d), .slice none 0 0, .slice none 0 0, .slice none 0 0, .slice none 0 0, .slice none 0 0, .bool false, .slice none 0 0, .slice none 0 0]) (by simp [results, Try.results7, go_sem, x0, x1, x2, x3, x4, x5, x6, x7, x8, x9, x10, x11, x12, x13, x14]) rfl (NewE.ok (H1 := wr.heap.size) (vs := vs) HN.out (by omega) hB.size ?_ ?_ ?_ ?_ ?_ ?_)
      · refine Nat.le_trans hs2 (World.grownBy.size (row := some w.heap.size) ?_)
        repeat (first | with_reducible exact gr_reflN _ _ | with_reducible refine gr_setN ?_)
      · refine owns_grown (row := some w.heap.size) o2 ?_ (fun g hg e => by have := (owns_lt o2 g hg).1; cases e; omega)
        repeat (first | with_reducible exact gr_reflN _ _ | with_reducible refine gr_setN ?_)
      · refine (V2.grownN (row := some w.heap.size) ?_ (fun g hg e => by have := (hll g hg).1; cases e; omega) (fun i x g hx hg e => by have := (hlf i x g hx hg).1; cases e; omega)).baseV (by omega)
        repeat (first | with_reducible exact gr_reflN _ _ | with_reducible refine gr_setN ?_)
      · exact fun g hg => by have := hll g hg; omega
      · exact fun i x g hx hg => by have := hlf i x g hx hg; omega
      · refine b2'.grown (row := some w.heap.size) ?_ b2'.size (fun g hg => by cases hg; exact Nat.le_refl _)
        repeat (first | with_reducible exact gr_reflN _ _ | with_reducible refine gr_setN ?_)
end Go.Proofs.Ytjjbjdjkcckgmaa
