/- Several texts in one: LokD, LokE, LksL. -/
import Derived.Test.YthfanfnbjldddaaMz3
import Derived.Test.YthfanfnbjldddaaIxQ
import Derived.Test.YthfanfnbjldddaaMz1


/- The draws of pairs. -/
namespace Go.Proofs.Ythfanfnbjldddaa
open Go.RowKit

theorem Ch.insE_len (l : List Ch.Hold) (e : Ch.Hold) : (Ch.insE l e).length ≤ l.length + 1 := by
  induction l with
  | nil => simp [Ch.insE]
  | cons x l ih =>
    unfold Ch.insE
    split
    · simp; exact ih
    · split <;> simp
theorem Ch.turn_len {ps : List Ch.Hold} {k : Nat} (h : k < ps.length) (nk nv : Int) : (Ch.turnL ps (ps.getD k Ch.Hold.zero).m ⟨nk, true, nv⟩).length ≤ ps.length := by
  unfold Ch.turnL
  rw [if_pos rfl]
  have h1 := Ch.insE_len (ps.filter fun p => p.m != (ps.getD k Ch.Hold.zero).m) ⟨nv, (ps.getD k Ch.Hold.zero).m⟩
  have h2 : (ps.filter fun p => p.m != (ps.getD k Ch.Hold.zero).m).length < ps.length :=
    List.length_filter_lt_length_iff_exists.2 ⟨_, Ch.getD_mem' h, by simp⟩
  simp only at h1 ⊢
  omega
theorem Ch.ixOf_len {ls : List (List Ch.Row)} {q : Nat} (hg : Ch.leavesFault ls = 0) (hl : ls.length ≤ q) : (Ch.ixOfL ls).length ≤ 4 * q := by
  have h1 : ∀ l : List Ch.Hold, (Ch.sortE l).length ≤ l.length := by
    intro l
    unfold Ch.sortE
    suffices H : ∀ (l acc : List Ch.Hold), (l.foldl Ch.insE acc).length ≤ acc.length + l.length by simpa using H l []
    intro l
    induction l with
    | nil => intro acc; simp
    | cons x l ih =>
      intro acc
      have := ih (Ch.insE acc x)
      have := Ch.insE_len acc x
      simp only [List.foldl_cons, List.length_cons]
      omega
  have h2 := h1 ((Ch.noGhost ls.flatten).map Ch.pairR)
  rw [Ch.map_len] at h2
  have h3 := Ch.noGhost_len ls.flatten
  have h4 : ∀ (xs : List (List Ch.Row)), (∀ l ∈ xs, l.length ≤ 4) → xs.flatten.length ≤ 4 * xs.length := by
    intro xs
    induction xs with
    | nil => intro _; simp
    | cons x xs ih =>
      intro h
      have := ih (fun l hl => h l (List.mem_cons_of_mem _ hl))
      have := h x (List.mem_cons_self ..)
      simp at *; omega
  have h5 := h4 ls (fun l hl => (((Ch.good_iff ls).1 hg).2.1 l hl).2)
  unfold Ch.ixOfL
  omega
/-- Some pairs were drawn. -/
def PrPost (q d s : Nat) (a : Option Addr) (n cap k : Nat) (zs : List Int) (w : World) (e : Ending) (w' : World) : Prop :=
  ∃ ps a' m c' k', m ≤ q ∧ e = .returned (.slice a' m c') ∧ w'.ownsRow w.heap.size 60 2 (.slice a' m c') m (hcells ps) ∧ k' ≤ k + d ∧ Src w' s a n cap k' zs ∧ w.grownBy w' (some s)
theorem pairs_len {w : World} {B m c : Nat} {a : Option Addr} {ps : List Ch.Hold} (h : w.ownsRow B 60 2 (.slice a m c) m (hcells ps)) : m = ps.length := (owns_cells h).hlen.out

set_option linter.unusedSimpArgs false in
set_option maxRecDepth 20000 in
set_option maxHeartbeats 4000000 in
theorem l9Draw_any (s : Nat) (a : Option Addr) (n cap k : Nat) (zs : List Int) (w : World) (h : Src w s a n cap k zs) (hb : IsB zs) (hn : n ≤ 1048580) (hk : k ≤ 200) :
    Calls Try.prog 117 #[.pointer (some ⟨s, 0, none⟩)] w (PrPost 80 280 s a n cap k zs w) := by
  have hsl := h.lt
  go_enter Try.func117, Try.ntmps117
  go_wp2_with fail
  refine (l3Right_any s a n cap k zs _ h hb hn (by omega)).mono ?_
  rintro e w1 ⟨ls, a1, m1, c1, K1, hg, hl20, rfl, o1, hK1, S1, G1⟩
  have hsz := Ch.good_sizeD hg
  have HLN := hid (Ch.ixOf_len hg hl20)
  go_wp2_with fail
  refine (l9Of_any a1 m1 c1 ls _ (o1.at (small_at hsz)) hsz hg).mono ?_
  rintro e w2 ⟨g2, m2, c2, rfl, hm2, o2, b2⟩
  have S2 := S1.below b2 S1.lt
  have G2 := gr_on G1 (b2.mono G1.size)
  have hm80 : m2 ≤ 80 := by have := pairs_len o2; have := HLN.out; omega
  have o2' := owns_base (base' := w.heap.size) o2 G1.size
  generalize Ch.ixOfL ls = ix at *
  clear o1 b2 hg hl20 hsz HLN o2 S1 G1
  go_wp2
  go_loopw [3, 4] (fun q i wr => ∃ (k' m g c' kq : Nat) (ps : List Ch.Hold), k' ≤ 80 ∧ m ≤ 80 ∧ i = .int .i64 k' ∧ q = .slice (some ⟨g, 0, none⟩) m c' ∧ wr.ownsRow w.heap.size 60 2 (.slice (some ⟨g, 0, none⟩) m c') m (hcells ps) ∧ kq ≤ K1 + 2 * k' ∧ Src wr s a n cap kq zs ∧ w.grownBy wr (some s)) (fun _ i _ => 80 - (intOf i).toNat)
  case atStart => exact ⟨0, m2, g2, c2, K1, ix, by omega, hm80, rfl, rfl, o2', by omega, S2, G2⟩
  case round =>
    clear o2' S2 G2
    obtain ⟨i, m, g, c', kq, ps, hi, hm, rfl, rfl, own, hkq, Sr, Gr⟩ := hrel
    by_cases hlt : i < m
    · have hil : i < ps.length := by have := pairs_len own; omega
      have HLN := hid (fun nk nv => Ch.turn_len hil nk nv)
      have hgl := (owns_lt own g rfl)
      go_wp2_with fail
      refine (chance_any 2 s a n cap kq zs _ Sr hb hn (by omega) (by omega) (by omega)).mono ?_
      rintro e w4 ⟨⟨ch, rfl⟩, S4, G4⟩
      have own4 := owns_grown own G4 (fun g' hg' e => by have := (owns_lt own g' hg').1; simp at e; omega)
      have Gr4 := gr_trans Gr G4
      cases ch
      · go_wp2
        go_roundw
        case rel => exact ⟨i + 1, m, g, c', kq + 1, ps, by omega, hm, by go_num, rfl, own4, by omega, S4, Gr4⟩
        case measure => simp [intOf]; omega
      obtain ⟨b, off, hbo, q0, q1⟩ := (owns_cells own4).hold hlt
      simp only [Option.some.injEq, Addr.mk.injEq, and_true] at hbo
      obtain ⟨rfl, rfl⟩ := hbo
      rw [Nat.zero_add] at q0 q1
      have hqb := lt_of_cell q0
      have PL : Hid (m = ps.length) := pairs_len own4
      generalize ps.getD i Ch.Hold.zero = r at *
      obtain ⟨rt, rm⟩ := r
      simp only at q0 q1 HLN
      have LT := fun (d : Int) (W : World) (o : W.ownsRow w.heap.size 60 2 (.slice (some ⟨g, 0, none⟩) m c') m (hcells ps)) => l9Turn_any (some ⟨g, 0, none⟩) m c' rm rm true d ps W (owns_cells o) (by omega)
      have hq4 : kq + 1 ≤ K1 + 2 * i + 2 := by omega
      have S4d : Src w4.drew s a n cap (kq + 1) zs := ⟨S4.box, S4.far, S4.bytes⟩
      have G4d : w.grownBy w4.drew (some s) := ⟨Gr4.os, Gr4.tape, Gr4.output, Gr4.size, Gr4.block⟩
      clear own Sr Gr S4 G4
      go_wp2_with fail
      refine wp_region_noPanic ?_
      refine wp_region_held_drew (S := fun W' => W'.cell? ⟨g, i * 2 + 1, none⟩ = some (.int .i64 rm) ∧ W'.ownsRow w.heap.size 60 2 (.slice (some ⟨g, 0, none⟩) m c') m (hcells ps) ∧ (∃ q, q ≤ K1 + 2 * i + 2 ∧ Src W' s a n cap q zs) ∧ w.grownBy W' (some s)) (by kernel_rfl) (⟨q1, own4, ⟨_, hq4, S4d⟩, G4d⟩) (fun hH => ?_)
      refine hTake (i := 0) (v := ?_) rfl (by kernel_rfl) (by kernel_rfl) (by kernel_rfl) (by rfl) ?_ hH ?_
      rotate_left
      · intro W hW; (try dsimp only at hW); go_simp <;> with_reducible rfl
      simp only [Act.put, List.setIfInBounds_toArray, List.set_cons_zero, List.set_cons_succ]
      refine hTake (i := 1) (v := ?_) rfl (by kernel_rfl) (by kernel_rfl) (by kernel_rfl) (by rfl) ?_ hH ?_
      rotate_left
      · intro W hW; (try dsimp only at hW); go_simp <;> with_reducible rfl
      simp only [Act.put, List.setIfInBounds_toArray, List.set_cons_zero, List.set_cons_succ]
      refine hTake (i := 2) (v := ?_) rfl (by kernel_rfl) (by kernel_rfl) (by kernel_rfl) (by rfl) ?_ hH ?_
      rotate_left
      · intro W hW; (try dsimp only at hW); go_simp <;> with_reducible rfl
      simp only [Act.put, List.setIfInBounds_toArray, List.set_cons_zero, List.set_cons_succ]
      refine hTake (i := 3) (v := ?_) rfl (by kernel_rfl) (by kernel_rfl) (by kernel_rfl) (by rfl) ?_ hH ?_
      rotate_left
      · intro W hW; (try dsimp only at hW); go_simp <;> with_reducible rfl
      simp only [Act.put, List.setIfInBounds_toArray, List.set_cons_zero, List.set_cons_succ]
      refine hTake (i := 4) (v := ?_) rfl (by kernel_rfl) (by kernel_rfl) (by kernel_rfl) (by rfl) ?_ hH ?_
      rotate_left
      · intro W hW; (try dsimp only at hW); go_simp <;> with_reducible rfl
      simp only [Act.put, List.setIfInBounds_toArray, List.set_cons_zero, List.set_cons_succ]
      refine hTake (i := 5) (v := ?_) rfl (by kernel_rfl) (by kernel_rfl) (by kernel_rfl) (by rfl) ?_ hH ?_
      rotate_left
      · intro W hW; (try dsimp only at hW); go_simp <;> with_reducible rfl
      simp only [Act.put, List.setIfInBounds_toArray, List.set_cons_zero, List.set_cons_succ]
      refine hTake (i := 6) (v := ?_) rfl (by kernel_rfl) (by kernel_rfl) (by kernel_rfl) (by rfl) ?_ hH ?_
      rotate_left
      · intro W hW; (try dsimp only at hW); go_simp <;> with_reducible rfl
      simp only [Act.put, List.setIfInBounds_toArray, List.set_cons_zero, List.set_cons_succ]
      refine hTake (i := 7) (v := ?_) rfl (by kernel_rfl) (by kernel_rfl) (by kernel_rfl) (by rfl) ?_ hH ?_
      rotate_left
      · intro W hW; (try dsimp only at hW); go_simp <;> with_reducible rfl
      simp only [Act.put, List.setIfInBounds_toArray, List.set_cons_zero, List.set_cons_succ]
      refine hTake (i := 8) (v := ?_) rfl (by kernel_rfl) (by kernel_rfl) (by kernel_rfl) (by rfl) ?_ hH ?_
      rotate_left
      · intro W hW; (try dsimp only at hW); go_simp <;> with_reducible rfl
      simp only [Act.put, List.setIfInBounds_toArray, List.set_cons_zero, List.set_cons_succ]
      refine hTake (i := 9) (v := ?_) rfl (by kernel_rfl) (by kernel_rfl) (by kernel_rfl) (by rfl) ?_ hH ?_
      rotate_left
      · intro W hW; (try dsimp only at hW); go_simp <;> with_reducible rfl
      simp only [Act.put, List.setIfInBounds_toArray, List.set_cons_zero, List.set_cons_succ]
      refine hTake (i := 10) (v := ?_) rfl (by kernel_rfl) (by kernel_rfl) (by kernel_rfl) (by rfl) ?_ hH ?_
      rotate_left
      · intro W hW; (try dsimp only at hW); go_simp <;> with_reducible rfl
      simp only [Act.put, List.setIfInBounds_toArray, List.set_cons_zero, List.set_cons_succ]
      refine hTake (i := 11) (v := ?_) rfl (by kernel_rfl) (by kernel_rfl) (by kernel_rfl) (by rfl) ?_ hH ?_
      rotate_left
      · intro W hW; (try dsimp only at hW); go_simp <;> with_reducible rfl
      simp only [Act.put, List.setIfInBounds_toArray, List.set_cons_zero, List.set_cons_succ]
      refine wpAnyH_ready (rs := [12]) (by kernel_rfl) (by simp) ?_
      refine AllReadyH.cons rfl (fun K hK => ?_) AllReadyH.nil
      go_simp
      refine (next_any 4 s a n cap (kq + 1) zs _ S4d hb hn (by omega) (by omega) (by omega)).mono ?_
      rintro e w7 ⟨⟨d, _, _, rfl⟩, S7, G7⟩
      refine hK.out _ _ ?_ (fun hH => ?_)
      · exact ⟨grown_cell G7 hH.1 (by simp; omega), owns_grown hH.2.1 G7 (fun g' hg' e => by have := (owns_lt hH.2.1 g' hg').1; simp at e; omega), ⟨_, by omega, S7⟩, gr_trans hH.2.2.2 G7⟩
      clear hK K
      refine hTake (i := 13) (v := ?_) rfl (by kernel_rfl) (by kernel_rfl) (by kernel_rfl) (by rfl) ?_ hH ?_
      rotate_left
      · intro W hW; (try dsimp only at hW); go_simp <;> with_reducible rfl
      simp only [Act.put, List.setIfInBounds_toArray, List.set_cons_zero, List.set_cons_succ]
      refine wpAnyH_ready (rs := [14]) (by kernel_rfl) (by simp) ?_
      refine AllReadyH.cons rfl (fun K hK => ?_) AllReadyH.nil
      go_simp
      refine (LT _ _ hH.2.1).mono ?_
      rintro e w8 ⟨g8, m8, c8, rfl, hm8, o8, b8⟩
      refine hK.out _ _ ?_ (fun hH => ?_)
      · exact ⟨keep_cell b8 hH.1, owns_below hH.2.1 b8, (by obtain ⟨q, h1, h2⟩ := hH.2.2.1; exact ⟨q, h1, h2.below b8 h2.lt⟩), gr_on hH.2.2.2 (b8.mono hH.2.2.2.size)⟩
      clear hK K
      refine hTake (i := 15) (v := ?_) rfl (by kernel_rfl) (by kernel_rfl) (by kernel_rfl) (by rfl) ?_ hH ?_
      rotate_left
      · intro W hW; (try dsimp only at hW); go_simp <;> with_reducible rfl
      simp only [Act.put, List.setIfInBounds_toArray, List.set_cons_zero, List.set_cons_succ]
      refine wpAnyH_done (by kernel_rfl) ?_ _
      refine NoPanic.normal ?_
      have hS := hH.2.2.1
      have hG := hH.2.2.2
      have hz8 := b8.size
      clear hH own4 S4d G4d q0 q1 b8 LT
      obtain ⟨kz, hkz, S8⟩ := hS
      have hm80' : m8 ≤ 80 := by have := pairs_len o8; have := HLN.out rm d; have := PL.out; omega
      go_wp2
      go_roundw
      case rel => exact ⟨i + 1, m8, g8, c8, kz, _, by omega, hm80', by go_num, rfl, owns_base o8 (Nat.le_trans Gr4.size G7.size), by omega, S8, hG⟩
      case measure => simp [intOf]; omega
    · go_wp2
      go_ret
      exact ⟨ps, _, m, c', kq, by omega, rfl, own, by omega, Sr, Gr⟩
end Go.Proofs.Ythfanfnbjldddaa


/- The draws of pairs, bent; DrawLookIndex. -/
namespace Go.Proofs.Ythfanfnbjldddaa
open Go.RowKit

theorem own_src {w w' : World} {B s : Nat} {e : TypeId} {size : Nat} {v : Value} {n : Nat} {xs : List Value} (h : w.ownsRow B e size v n xs) (hg : w.grownBy w' (some s)) (hs : s < B) : w'.ownsRow B e size v n xs :=
  owns_grown h hg (fun g hg' e => by have := (owns_lt h g hg').1; simp at e; omega)

set_option linter.unusedSimpArgs false in
set_option maxRecDepth 20000 in
set_option maxHeartbeats 4000000 in
theorem l9Bent_any (s : Nat) (a : Option Addr) (n cap k : Nat) (zs : List Int) (w : World) (h : Src w s a n cap k zs) (hb : IsB zs) (hn : n ≤ 1048580) (hk : k ≤ 200) :
    Calls Try.prog 81 #[.pointer (some ⟨s, 0, none⟩)] w (PrPost 300 300 s a n cap k zs w) := by
  have hsl := h.lt
  obtain ⟨i0, hi0, hz0, hz1, hz2⟩ := info_parts Try.info60
  go_enter Try.func81, Try.ntmps81
  go_wp2_with fail
  refine (l9Draw_any s a n cap k zs _ h hb hn hk).mono ?_
  rintro e w1 ⟨ps, a1, m1, c1, k1, hm1, rfl, o1, hk1, S1, G1⟩
  have hz1' := G1.size
  go_wp2_with fail
  refine (next_any 14 s a n cap k1 zs _ S1 hb hn (by omega) (by omega) (by omega)).mono ?_
  rintro e w2 ⟨⟨d, hd0, hd1, rfl⟩, S2, G2⟩
  have o2 := own_src o1 G2 hsl
  have GG := gr_trans G1 G2
  have hz2' := G2.size
  have hs2 := S2.lt
  clear o1 S1 G1 G2
  by_cases hA : d = 0
  · subst hA
    go_wp2_with fail
    have kA : Below w2.heap.size w2 (w2.alloc (.cells #[.int .i64 9999, .int .i64 10000, .int .i64 0] 2)) := (Below.refl _ _).alloc (Nat.le_refl _) _
    have oA := owns_below o2 kA
    have GA := gr_on GG (kA.mono GG.size)
    refine (pick_any w2.heap.size 3 [9999, 10000, 0] s a n cap (k1 + 1) zs _ S2.new hb hn (by omega) (heap_alloc_new w2 _) (by omega) rfl (by omega) (by omega)).mono ?_
    rintro e w3 ⟨⟨v, _, rfl⟩, S3, G3⟩
    have o3 := own_src oA G3 hsl
    have GB := gr_trans GA G3
    have hs3 := S3.lt
    clear oA GA kA o2 GG S2 G3
    have kB : Below w3.heap.size w3 (w3.alloc (.cells #[.int .i64 99, .int .i64 100, .int .i64 3] 2)) := (Below.refl _ _).alloc (Nat.le_refl _) _
    have oB := owns_below o3 kB
    have GC := gr_on GB (kB.mono GB.size)
    go_wp2_with fail
    refine (pick_any w3.heap.size 3 [99, 100, 3] s a n cap (k1 + 1 + 1) zs _ S3.new hb hn (by omega) (heap_alloc_new w3 _) (by omega) rfl (by omega) (by omega)).mono ?_
    rintro e w4 ⟨⟨u, _, rfl⟩, S4, G4⟩
    have o4 := own_src oB G4 hsl
    have GD := gr_trans GC G4
    clear oB GC kB o3 GB S3 G4
    have kC : Below w4.heap.size w4 (w4.alloc (.cells #[.int .i64 v, .int .i64 u] 60)) := (Below.refl _ _).alloc (Nat.le_refl _) _
    have o5 := owns_below o4 kC
    have S5 := S4.below kC S4.lt
    have GE := gr_on GD (kC.mono GD.size)
    have hC3 := new_hold w4 v u 60
    have hz4 := GD.size
    have hb3 : w.heap.size ≤ (w4.alloc (.cells #[.int .i64 v, .int .i64 u] 60)).heap.size := by simp; omega
    go_wp2_with (at_builtin; go_must (refine wpList_appX Try.underlying52 Try.underlying52 hi0 hz0 hz1 hz2 rfl (by omega) (by omega) (.tmp 10) (.tmp 18) ?_ ?_ w.heap.size (.slice a1 m1 c1) m1 (hcells ps) _ 1 1 (hcells [⟨v, u⟩]) ?_ ?_ o5 hC3 (hcells_one' _) (by omega) hb3 ?_; exact rfl; exact rfl; exact rfl; exact rfl; intro a6 c6 w6 own6 gr6 at6; go_frame))
    go_ret
    refine ⟨ps ++ [⟨v, u⟩], a6, m1 + 1, c6, k1 + 1 + 1 + 1, by omega, rfl, by rw [hcells_append]; exact own6, by omega, S5.grown gr6 (fun r hr => by have := (owns_lt o5 r hr).1; omega), ?_⟩
    exact gr_on GE ⟨gr6.os, gr6.tape, gr6.output, gr6.size, fun j hj => gr6.block j (by have := GE.size; omega) (fun e => by have := (owns_lt o5 j e.symm).1; omega)⟩
  have e0 : (d == 0) = false := by simpa using hA
  by_cases hB : d = 1
  · subst hB
    by_cases hm0 : 0 < m1
    · obtain ⟨b, off, ha1, q0, q1⟩ := (owns_cells o2).hold hm0
      subst ha1
      have hbl := lt_of_cell q0
      rw [Nat.zero_mul, Nat.add_zero] at q0 q1
      generalize ps.getD 0 Ch.Hold.zero = r at *
      obtain ⟨rt, rm⟩ := r
      simp only at q0 q1
      have kC : Below w2.heap.size w2 (w2.alloc (.cells #[.int .i64 9999, .int .i64 rm] 60)) := (Below.refl _ _).alloc (Nat.le_refl _) _
      have o5 := owns_below o2 kC
      have S5 := S2.below kC S2.lt
      have GE := gr_on GG (kC.mono GG.size)
      have hC3 := new_hold w2 9999 rm 60
      have hb3 : w.heap.size ≤ (w2.alloc (.cells #[.int .i64 9999, .int .i64 rm] 60)).heap.size := by simp; omega
      have hd1 : (0 : Int) < (m1 : Int) := by omega
      go_wp2_with (at_builtin; go_must (refine wpList_appX Try.underlying52 Try.underlying52 hi0 hz0 hz1 hz2 rfl (by omega) (by omega) (.tmp 25) (.tmp 31) ?_ ?_ w.heap.size (.slice (some ⟨b, off, none⟩) m1 c1) m1 (hcells ps) _ 1 1 (hcells [⟨9999, rm⟩]) ?_ ?_ o5 hC3 (hcells_one' _) (by omega) hb3 ?_; exact rfl; exact rfl; exact rfl; exact rfl; intro a6 c6 w6 own6 gr6 at6; go_frame))
      go_ret
      refine ⟨ps ++ [⟨9999, rm⟩], a6, m1 + 1, c6, k1 + 1, by omega, rfl, by rw [hcells_append]; exact own6, by omega, S5.grown gr6 (fun r hr => by have := (owns_lt o5 r hr).1; omega), ?_⟩
      exact gr_on GE ⟨gr6.os, gr6.tape, gr6.output, gr6.size, fun j hj => gr6.block j (by have := GE.size; omega) (fun e => by have := (owns_lt o5 j e.symm).1; omega)⟩
    · have hm0' : m1 = 0 := by omega
      subst hm0'
      go_wp2
      go_ret
      exact ⟨ps, a1, 0, c1, k1 + 1, by omega, rfl, o2, by omega, S2, GG⟩
  have e1 : (d == 1) = false := by simpa using hB
  by_cases hC : d = 2
  · subst hC
    go_wp2_with (at_make; refine wpList_make_full _ rfl _ _ 52 rfl w.heap.size 60 i0 (.agg #[.int .i64 0, .int .i64 0]) 2 Try.underlying52 hi0 hz0 hz1 .i64 .i64 _ _ 241 rfl rfl rfl rfl (by rw [hz2]; omega) (by unfold maxLen; omega) (by omega) ?_; intro w0 hown0 hgrow0)
    have hB0 : Below w2.heap.size w2 w0 := (Below.refl _ _).grown hgrow0 (Nat.le_refl _) (by simp)
    go_wp2
    go_ret
    refine ⟨List.replicate 241 Ch.Hold.zero, _, 241, 241, k1 + 1, by omega, rfl, by rw [made_holds] at hown0; exact hown0, by omega, S2.below hB0 S2.lt, gr_on GG (hB0.mono GG.size)⟩
  have e2 : (d == 2) = false := by simpa using hC
  go_wp2
  go_ret
  exact ⟨ps, a1, m1, c1, k1 + 1, by omega, rfl, o2, by omega, S2, GG⟩

set_option linter.unusedSimpArgs false in
set_option maxRecDepth 20000 in
set_option maxHeartbeats 4000000 in
theorem drawLook_any (a : Option Addr) (n cap : Nat) (zs : List Int) (w : World) (h : CellsAt w a n (bts zs)) (hb : IsB zs) (hn : n ≤ 1048576) :
    Calls Try.prog 27 #[.slice a n cap] w fun e w' => ∃ ps a' m c' v, m ≤ 300 ∧ e = .returned (.tuple #[.slice a' m c', .int .i64 v]) ∧ w'.ownsRow w.heap.size 60 2 (.slice a' m c') m (hcells ps) ∧ Below w.heap.size w w' := by
  go_enter Try.func27, Try.ntmps27
  go_wp2_with fail
  refine (source_any a n cap zs w h).mono ?_
  rintro e w1 ⟨rfl, S1, b1⟩
  have hz1 := S1.lt
  go_wp2_with fail
  refine (l9Bent_any w.heap.size a n cap 0 zs _ S1 hb (by omega) (by omega)).mono ?_
  rintro e w2 ⟨ps, a2, m2, c2, k2, hm2, rfl, o2, hk2, S2, G2⟩
  have B2 := b1.trans (below_gr (B := w.heap.size) G2 (Nat.le_refl _) (by omega))
  have hz2 := G2.size
  have hs2 := S2.lt
  clear S1 b1 G2
  go_wp2_with fail
  refine (next_any 4 w.heap.size a n cap k2 zs _ S2 hb (by omega) (by omega) (by omega) (by omega)).mono ?_
  rintro e w3 ⟨⟨d, _, _, rfl⟩, S3, G3⟩
  have o3 := own_src o2 G3 (by omega)
  have B3 := B2.trans (below_gr (B := w.heap.size) G3 (Nat.le_refl _) (by omega))
  have hz3 := G3.size
  clear S2 B2 G3 o2
  go_wp2_with fail
  refine (next_any 50 w.heap.size a n cap (k2 + 1) zs _ S3 hb (by omega) (by omega) (by omega) (by omega)).mono ?_
  rintro e w4 ⟨⟨d', _, _, rfl⟩, S4, G4⟩
  have o4 := own_src o3 G4 (by omega)
  have B4 := B3.trans (below_gr (B := w.heap.size) G4 (Nat.le_refl _) (by omega))
  have hz4 := G4.size
  clear S3 B3 G4 o3
  go_wp2_with fail
  have kA : Below w4.heap.size w4 (w4.alloc (.cells #[.int .i64 d, .int .i64 d', .int .i64 (-1), .int .i64 10000] 2)) := (Below.refl _ _).alloc (Nat.le_refl _) _
  refine (pick_any w4.heap.size 4 [d, d', -1, 10000] w.heap.size a n cap (k2 + 1 + 1) zs _ S4.new hb (by omega) (by omega) (heap_alloc_new w4 _) (by omega) rfl (by omega) (by omega)).mono ?_
  rintro e w5 ⟨⟨v, _, rfl⟩, S5, G5⟩
  have o5 := own_src (owns_below o4 kA) G5 (by omega)
  have B5 := (B4.trans (kA.mono B4.size)).trans (below_gr (B := w.heap.size) G5 (Nat.le_refl _) (by simp; omega))
  go_wp2
  exact bodyPost_ret (v := .tuple #[.slice a2 m2 c2, .int .i64 v]) (by simp [results, Try.results27, go_sem]) rfl ⟨ps, a2, m2, c2, v, hm2, rfl, owns_base o5 (by omega), B5⟩
end Go.Proofs.Ythfanfnbjldddaa


/- The law FnLooks. -/
namespace Go.Proofs.Ythfanfnbjldddaa
open Go.RowKit

theorem fieldIr (c : Int) (a : Option Addr) (m k : Nat) (W : World) : (Instr.field 57 (.agg #[.int .i64 c, .slice a m k]) 0).run Try.prog W = .ok (.int .i64 c) W := by kernel_rfl
theorem Ch.lookL_mem {ps : List Ch.Hold} {v : Int} {p : Ch.Hold} (hp : p ∈ ps) (ht : p.t = v) : p.m ∈ Ch.lookL ps v := List.mem_map.2 ⟨p, List.mem_filter.2 ⟨hp, by simpa using ht⟩, rfl⟩
theorem Ch.lookL_up {ps : List Ch.Hold} {v : Int} (h : Ch.SortE ps) : (Ch.lookL ps v).Pairwise (· < ·) := by
  unfold Ch.lookL
  rw [List.pairwise_map]
  have h1 : (ps.filter fun p => p.t == v).Pairwise fun a b => Ch.ltE a b = true := List.Pairwise.filter _ h
  refine List.Pairwise.imp_of_mem ?_ h1
  intro a b ha hb hl
  have e1 : a.t = v := by simpa using (List.mem_filter.1 ha).2
  have e2 : b.t = v := by simpa using (List.mem_filter.1 hb).2
  rcases Ch.ltE_iff.1 hl with h3 | ⟨_, h3⟩
  · omega
  · exact h3
theorem Ch.look_rise {ps : List Ch.Hold} {v : Int} (h : Ch.SortE ps) {p k : Nat} (hpk : p < k) (hk : k < (Ch.lookL ps v).length) : (Ch.lookL ps v).getD p 0 < (Ch.lookL ps v).getD k 0 := by
  have := List.pairwise_iff_getElem.1 (Ch.lookL_up (v := v) h) p k (by omega) hk hpk
  simpa [List.getD, hk, show p < (Ch.lookL ps v).length by omega] using this
theorem Ch.lookR_zero {ps : List Ch.Hold} {v : Int} (h : (Ch.lookR ps v).1 = 0) : Ch.ixFault ps = 0 ∧ (Ch.lookR ps v).2 = Ch.lookL ps v := by
  by_cases h1 : (Ch.ixFault ps != 0) = true
  · rw [Ch.lookR_code rfl h1] at h
    simp only at h
    rw [h] at h1; cases h1
  · have h0 : Ch.ixFault ps = 0 := by simpa using h1
    cases hv : Ch.inB v 0 9999
    · rw [Ch.lookR_range h0 hv] at h; cases h
    · exact ⟨h0, by rw [Ch.lookR_ok h0 hv]⟩

set_option maxHeartbeats 1000000 in
theorem lwHas_yes (a : Option Addr) (n cap : Nat) (x : Int) (zs : List Int) (w : World) (h : CellsAt w a (n * 1) (icells zs)) (hn : n ≤ 1048576) (hx : x ∈ zs) :
    Calls Try.prog 30 #[.slice a n cap, .int .i64 x] w fun e w' => e = .returned (.bool true) ∧ w' = w := by
  have HL := h.ilen
  have HX := hid hx
  clear hx
  go_enter Try.func30, Try.ntmps30
  go_wp2
  go_loop [5] (fun i => ∃ k : Nat, k ≤ n ∧ i = .int .i64 k ∧ Hid (∀ j, j < k → zs.getD j 0 ≠ x)) (fun i => n - (intOf i).toNat)
  case atStart => exact ⟨0, Nat.zero_le _, rfl, hid fun j hj => by omega⟩
  case round =>
    obtain ⟨k, hk, rfl, HA⟩ := hrel
    by_cases hlt : k < n
    · obtain ⟨b, off, rfl, q0⟩ := h.int hlt
      have hbl := lt_of_cell q0
      have HAN := hid (fun hne => fun j' (hj' : j' < k + 1) => (if he : j' = k then by rw [he]; exact hne else HA.out j' (by omega) : zs.getD j' 0 ≠ x))
      generalize zs.getD k 0 = z at *
      by_cases hz : z = x
      · have e1 : (z == x) = true := by simpa using hz
        clear hz HAN
        go_wp2
        go_ret
        exact ⟨rfl, rfl⟩
      · have e1 : (z == x) = false := by simpa using hz
        replace HAN := hid (HAN.out hz)
        clear hz
        go_wp2
        go_round
        case rel => exact ⟨k + 1, by omega, by go_num, HAN⟩
        case measure => simp [intOf]; omega
    · exfalso
      obtain rfl : k = n := by omega
      obtain ⟨j, hj, he⟩ := List.getElem_of_mem HX.out
      exact HA.out j (by have := HL.out; omega) (by simpa [List.getD, hj] using he)

set_option linter.unusedSimpArgs false in
set_option maxRecDepth 100000 in
set_option maxHeartbeats 8000000 in
theorem lawLooks_any (a : Option Addr) (n cap : Nat) (zs : List Int) (w : World) (h : CellsAt w a n (bts zs)) (hb : IsB zs) :
    Calls Try.prog 5 #[.slice a n cap] w fun e w' => e = .returned (.bool true) ∧ Below w.heap.size w w' := by
  by_cases hbig : 1048576 < n
  · have hd : decide ((1048576 : Int) < (n : Int)) = true := by simp; omega
    have BI := fun W => big_any a n cap W
    rw [hd] at BI
    go_enter Try.func5, Try.ntmps5
    go_wp2_with fail
    refine (BI _).mono ?_
    rintro e w' ⟨rfl, rfl⟩
    go_wp2
    go_ret
    exact ⟨rfl, Below.refl _ _⟩
  have hn : n ≤ 1048576 := by omega
  have hd : decide ((1048576 : Int) < (n : Int)) = false := by simp; omega
  have BI := fun W => big_any a n cap W
  rw [hd] at BI
  clear hbig
  go_enter Try.func5, Try.ntmps5
  go_wp2_with fail
  refine (BI _).mono ?_
  rintro e w' ⟨rfl, hw'⟩
  obtain rfl := hw'.symm
  go_wp2_with fail
  refine (drawLook_any a n cap zs _ h hb hn).mono ?_
  rintro e w1 ⟨ps, a1, n1, c1, v, hn1, rfl, o1, b1⟩
  have II := implLook_any a1 n1 c1 v ps w1 (owns_cells o1) (by omega)
  have SS : ∀ W, W.ownsRow w.heap.size 60 2 (.slice a1 n1 c1) n1 (hcells ps) → Calls Try.prog 29 #[.slice a1 n1 c1, .int .i64 v] W fun e W' => ∃ a' m c', e = .returned (.agg #[.int .i64 (Ch.lookR ps v).1, .slice a' m c']) ∧ Below W.heap.size W W' := fun W hW => (specLook_any a1 n1 c1 v ps W (owns_cells hW) (by omega)).mono (by rintro e W' ⟨a', m, c', h1, _, _, h4⟩; exact ⟨a', m, c', h1, h4⟩)
  have HZ := hid (fun h0 => Ch.lookR_zero (ps := ps) (v := v) h0)
  generalize (Ch.lookR ps v).2 = rs at *
  generalize (Ch.lookR ps v).1 = c at *
  go_wp2_with fail
  refine II.mono ?_
  rintro e w2 ⟨a2, m2, c2, rfl, hm2, o2, b2⟩
  have bE := b1.trans (b2.mono b1.size)
  have o1 := owns_below o1 b2
  have bA2 : ∀ o, Below w2.heap.size w2 (w2.alloc o) := fun o => (Below.refl _ _).alloc (Nat.le_refl _) _
  clear II b1 b2
  by_cases hc0 : c = 0
  rotate_left
  · have hc : (c != 0) = true := by simpa using hc0
    have hcc : (c == c) = true := by simp
    clear HZ hc0
    go_wp2
    refine wp_region_noPanic ?_
    refine wp_region_held_drew (S := fun W' => W'.cell? ⟨w2.heap.size, 0, none⟩ = some (.int .i64 c) ∧ Below w2.heap.size w2 W') (by kernel_rfl) (⟨by simp [go_sem], (bA2 _).drew⟩) (fun hH => ?_)
    refine hTake (i := 0) (v := ?_) rfl (by kernel_rfl) (by kernel_rfl) (by kernel_rfl) (by rfl) ?_ hH ?_
    rotate_left
    · intro W hW; (try dsimp only at hW); go_simp <;> with_reducible rfl
    simp only [Act.put, List.setIfInBounds_toArray, List.set_cons_zero, List.set_cons_succ]
    refine hTake (i := 1) (v := ?_) rfl (by kernel_rfl) (by kernel_rfl) (by kernel_rfl) (by rfl) ?_ hH ?_
    rotate_left
    · intro W hW; (try dsimp only at hW); go_simp <;> with_reducible rfl
    simp only [Act.put, List.setIfInBounds_toArray, List.set_cons_zero, List.set_cons_succ]
    refine hTake (i := 4) (v := ?_) rfl (by kernel_rfl) (by kernel_rfl) (by kernel_rfl) (by rfl) ?_ hH ?_
    rotate_left
    · intro W hW; (try dsimp only at hW); go_simp <;> with_reducible rfl
    simp only [Act.put, List.setIfInBounds_toArray, List.set_cons_zero, List.set_cons_succ]
    refine hTake (i := 5) (v := ?_) rfl (by kernel_rfl) (by kernel_rfl) (by kernel_rfl) (by rfl) ?_ hH ?_
    rotate_left
    · intro W hW; (try dsimp only at hW); go_simp <;> with_reducible rfl
    simp only [Act.put, List.setIfInBounds_toArray, List.set_cons_zero, List.set_cons_succ]
    refine wpAnyH_ready (rs := [2]) (by kernel_rfl) (by simp) ?_
    refine AllReadyH.cons rfl (fun K hK => ?_) AllReadyH.nil
    go_simp
    refine (SS _ (owns_below o1 hH.2)).mono ?_
    rintro e w3 ⟨a3, m3, c3, rfl, b3⟩
    have hfd := fun W => fieldIr c a3 m3 c3 W
    go_wp2_with fail
    refine hK.out _ _ ?_ (fun hH => ?_)
    · exact ⟨keep_cell b3 hH.1, hH.2.trans (b3.mono hH.2.size)⟩
    clear hK K
    refine hTake (i := 3) (v := ?_) rfl (by kernel_rfl) (by kernel_rfl) (by kernel_rfl) (by rfl) ?_ hH ?_
    rotate_left
    · intro W hW; (try dsimp only at hW); go_simp <;> with_reducible rfl
    simp only [Act.put, List.setIfInBounds_toArray, List.set_cons_zero, List.set_cons_succ]
    refine hTake (i := 6) (v := ?_) rfl (by kernel_rfl) (by kernel_rfl) (by kernel_rfl) (by rfl) ?_ hH ?_
    rotate_left
    · intro W hW; (try dsimp only at hW); go_simp <;> with_reducible rfl
    simp only [Act.put, List.setIfInBounds_toArray, List.set_cons_zero, List.set_cons_succ]
    refine hTake (i := 7) (v := ?_) rfl (by kernel_rfl) (by kernel_rfl) (by kernel_rfl) (by rfl) ?_ hH ?_
    rotate_left
    · intro W hW; (try dsimp only at hW); go_simp <;> with_reducible rfl
    simp only [Act.put, List.setIfInBounds_toArray, List.set_cons_zero, List.set_cons_succ]
    refine wpAnyH_done (by kernel_rfl) ?_ _
    refine NoPanic.normal ?_
    have b6 := hH.2
    clear hH
    go_wp2
    go_ret
    exact ⟨rfl, bE.trans (b6.mono bE.size)⟩
  subst hc0
  obtain ⟨hix, hrs⟩ := HZ.out rfl
  have HG := hid (Ch.ix_good hix)
  subst hrs
  clear HZ SS hix
  have HL := (owns_cells o1).hlen
  have HLr := (owns_cells o2).ilen
  have hP5 := heap_alloc_new w2 (.cells #[.int .i64 0, .slice a2 m2 c2] 57)
  have kP5 := bA2 (.cells #[.int .i64 0, .slice a2 m2 c2] 57)
  go_wp2
  go_loopw [6, 7] (fun q i wr => ∃ (k : Nat), k ≤ n1 ∧ i = .int .i64 k ∧ q = .int .i64 ((Ch.lookL (ps.take k) v).length : Nat) ∧ wr.heap[w2.heap.size]? = some (.cells #[.int .i64 0, .slice a2 m2 c2] 57 (0, 0)) ∧ Below w2.heap.size w2 wr) (fun _ i _ => n1 - (intOf i).toNat)
  case atStart => exact ⟨0, Nat.zero_le _, rfl, rfl, hP5, kP5⟩
  case round =>
    clear hP5 kP5
    obtain ⟨k, hk, rfl, rfl, hP, hB⟩ := hrel
    obtain ⟨x0, x1, _, _⟩ := row2 hP
    have lx := lt_of_cell x0
    by_cases hlt : k < n1
    · have hkl : k < ps.length := by have := HL.out; omega
      have HY := hid (fun he => Ch.lookL_yes (v := v) hkl he)
      have HN := hid (fun he => Ch.lookL_no (v := v) hkl he)
      have HM := hid (fun ht => Ch.lookL_mem (v := v) (Ch.getD_mem' hkl) ht)
      have HLN := hid (Ch.lookL_len (ps.take k) v)
      obtain ⟨b, off, rfl, q0, q1⟩ := (owns_cells (owns_below o1 hB)).hold hlt
      have hbl := lt_of_cell q0
      generalize ps.getD k Ch.Hold.zero = r at *
      obtain ⟨rt, rm⟩ := r
      simp only at q0 q1 HY HN HM
      have hll : (Ch.lookL (ps.take k) v).length ≤ 300 := by have := HLN.out; simp at this; omega
      by_cases hh : rt = v
      rotate_left
      · have e1 : (rt == v) = false := by simpa using hh
        replace HN := hid (HN.out e1)
        clear HY HM hh HLN
        rw [← HN.out]
        go_wp2
        go_roundw
        case rel => exact ⟨k + 1, by omega, by go_num, rfl, hP, hB⟩
        case measure => simp [intOf]; omega
      · have e1 : (rt == v) = true := by simpa using hh
        have HY' : Hid ((Ch.lookL (ps.take (k + 1)) v).length = (Ch.lookL (ps.take k) v).length + 1) := by show _ = _; rw [HY.out e1]; simp
        have HH := fun W hW => lwHas_yes a2 m2 c2 rm (Ch.lookL ps v) W hW hm2 (HM.out hh)
        generalize (Ch.lookL (ps.take k) v).length = cnt at *
        clear HY HN HM hh HLN
        go_wp2_with fail
        refine wp_region_noPanic ?_
        refine wp_region_held_drew (S := fun W' => W'.cell? ⟨w2.heap.size, 1, none⟩ = some (.slice a2 m2 c2) ∧ W'.cell? ⟨b, off + k * 2 + 1, none⟩ = some (.int .i64 rm) ∧ Below w2.heap.size w2 W') (by kernel_rfl) (⟨x1, q1, hB.drew⟩) (fun hH => ?_)
        refine hTake (i := 0) (v := ?_) rfl (by kernel_rfl) (by kernel_rfl) (by kernel_rfl) (by rfl) ?_ hH ?_
        rotate_left
        · intro W hW; (try dsimp only at hW); go_simp <;> with_reducible rfl
        simp only [Act.put, List.setIfInBounds_toArray, List.set_cons_zero, List.set_cons_succ]
        refine hTake (i := 1) (v := ?_) rfl (by kernel_rfl) (by kernel_rfl) (by kernel_rfl) (by rfl) ?_ hH ?_
        rotate_left
        · intro W hW; (try dsimp only at hW); go_simp <;> with_reducible rfl
        simp only [Act.put, List.setIfInBounds_toArray, List.set_cons_zero, List.set_cons_succ]
        refine hTake (i := 2) (v := ?_) rfl (by kernel_rfl) (by kernel_rfl) (by kernel_rfl) (by rfl) ?_ hH ?_
        rotate_left
        · intro W hW; (try dsimp only at hW); go_simp <;> with_reducible rfl
        simp only [Act.put, List.setIfInBounds_toArray, List.set_cons_zero, List.set_cons_succ]
        refine hTake (i := 3) (v := ?_) rfl (by kernel_rfl) (by kernel_rfl) (by kernel_rfl) (by rfl) ?_ hH ?_
        rotate_left
        · intro W hW; (try dsimp only at hW); go_simp <;> with_reducible rfl
        simp only [Act.put, List.setIfInBounds_toArray, List.set_cons_zero, List.set_cons_succ]
        refine hTake (i := 4) (v := ?_) rfl (by kernel_rfl) (by kernel_rfl) (by kernel_rfl) (by rfl) ?_ hH ?_
        rotate_left
        · intro W hW; (try dsimp only at hW); go_simp <;> with_reducible rfl
        simp only [Act.put, List.setIfInBounds_toArray, List.set_cons_zero, List.set_cons_succ]
        refine hTake (i := 5) (v := ?_) rfl (by kernel_rfl) (by kernel_rfl) (by kernel_rfl) (by rfl) ?_ hH ?_
        rotate_left
        · intro W hW; (try dsimp only at hW); go_simp <;> with_reducible rfl
        simp only [Act.put, List.setIfInBounds_toArray, List.set_cons_zero, List.set_cons_succ]
        refine hTake (i := 6) (v := ?_) rfl (by kernel_rfl) (by kernel_rfl) (by kernel_rfl) (by rfl) ?_ hH ?_
        rotate_left
        · intro W hW; (try dsimp only at hW); go_simp <;> with_reducible rfl
        simp only [Act.put, List.setIfInBounds_toArray, List.set_cons_zero, List.set_cons_succ]
        refine wpAnyH_ready (rs := [7]) (by kernel_rfl) (by simp) ?_
        refine AllReadyH.cons rfl (fun K hK => ?_) AllReadyH.nil
        go_simp
        refine (HH _ (owns_cells (owns_below o2 hH.2.2))).mono ?_
        rintro e w9 ⟨rfl, hw9⟩
        obtain rfl := hw9.symm
        refine hK.out _ _ ?_ (fun hH => ?_)
        · exact hH
        clear hK K
        refine hTake (i := 8) (v := ?_) rfl (by kernel_rfl) (by kernel_rfl) (by kernel_rfl) (by rfl) ?_ hH ?_
        rotate_left
        · intro W hW; (try dsimp only at hW); go_simp <;> with_reducible rfl
        simp only [Act.put, List.setIfInBounds_toArray, List.set_cons_zero, List.set_cons_succ]
        refine wpAnyH_done (by kernel_rfl) ?_ _
        refine NoPanic.normal ?_
        have hB' := hH.2.2
        have hx1 := hH.1
        clear hH
        have hP' : wr.drew.heap[w2.heap.size]? = some (.cells #[.int .i64 0, .slice a2 m2 c2] 57 (0, 0)) := hP
        go_wp2
        go_roundw
        case rel => exact ⟨k + 1, by omega, by go_num, by rw [HY'.out]; go_num, hP', hB'⟩
        case measure => simp [intOf]; omega
    · obtain rfl : k = n1 := by omega
      have HWF : Hid (ps.take k = ps) := by have := HL.out; show _ = _; rw [this]; exact List.take_length
      rw [HWF.out]
      have HCN : Hid ((Ch.lookL ps v).length = m2) := HLr.out.symm
      rw [HCN.out]
      have HUP := hid (fun p k' (hpk : p < k') (hk' : k' < m2) => Ch.look_rise (v := v) HG.out.sort hpk (by rw [HCN.out]; exact hk'))
      generalize Ch.lookL ps v = rs at *
      clear HCN HWF HG HL HLr
      generalize wr = wq at *
      go_wp2
      go_loopw [8] (fun i wr => ∃ (k : Nat), i = .int .i64 k ∧ 1 ≤ k ∧ (k ≤ m2 ∨ k = 1) ∧ wr.heap[w2.heap.size]? = some (.cells #[.int .i64 0, .slice a2 m2 c2] 57 (0, 0)) ∧ Below w2.heap.size w2 wr) (fun i _ => m2 + 1 - (intOf i).toNat)
      case atStart => exact ⟨1, rfl, by omega, .inr rfl, hP, hB⟩
      case round =>
        clear hP hB x0 x1 lx
        obtain ⟨k, rfl, hk1, hkm, hP, hB⟩ := hrel
        obtain ⟨x0, x1, _, _⟩ := row2 hP
        have lx := lt_of_cell x0
        by_cases hlt : k < m2
        · obtain ⟨p, hkp⟩ : ∃ p, Hid (k - 1 = p) := ⟨_, rfl⟩
          have hpm : p < m2 := by have := hkp.out; omega
          have hlz := HUP.out p k (by have := hkp.out; omega) hlt
          obtain ⟨rb, ro, ha2, q0⟩ := (owns_cells (owns_below o2 hB)).int hlt
          obtain ⟨rb', ro', ha2', p0⟩ := (owns_cells (owns_below o2 hB)).int hpm
          subst ha2
          cases ha2'
          have hwi : IntKind.i64.wrap ((k : Int) - 1) = (p : Int) := by rw [IntWalk.i64_in _ ⟨by omega, by omega⟩]; have := hkp.out; omega
          generalize rs.getD k 0 = zk at *
          generalize rs.getD p 0 = zp at *
          have hle : ¬ zk ≤ zp := by omega
          have lr := lt_of_cell q0
          clear hlz hkp
          go_wp2_with fail
          refine wp_region_noPanic ?_
          refine wp_region_held_drew (S := fun W' => W'.cell? ⟨w2.heap.size, 1, none⟩ = some (.slice (some ⟨rb, ro, none⟩) m2 c2) ∧ W'.cell? ⟨rb, ro + k, none⟩ = some (.int .i64 zk) ∧ W'.cell? ⟨rb, ro + p, none⟩ = some (.int .i64 zp) ∧ Below w2.heap.size w2 W') (by kernel_rfl) (⟨x1, q0, p0, hB.drew⟩) (fun hH => ?_)
          refine hTake (i := 0) (v := ?_) rfl (by kernel_rfl) (by kernel_rfl) (by kernel_rfl) (by rfl) ?_ hH ?_
          rotate_left
          · intro W hW; (try dsimp only at hW); go_simp <;> with_reducible rfl
          simp only [Act.put, List.setIfInBounds_toArray, List.set_cons_zero, List.set_cons_succ]
          refine hTake (i := 1) (v := ?_) rfl (by kernel_rfl) (by kernel_rfl) (by kernel_rfl) (by rfl) ?_ hH ?_
          rotate_left
          · intro W hW; (try dsimp only at hW); go_simp <;> with_reducible rfl
          simp only [Act.put, List.setIfInBounds_toArray, List.set_cons_zero, List.set_cons_succ]
          refine hTake (i := 2) (v := ?_) rfl (by kernel_rfl) (by kernel_rfl) (by kernel_rfl) (by rfl) ?_ hH ?_
          rotate_left
          · intro W hW; (try dsimp only at hW); go_simp <;> with_reducible rfl
          simp only [Act.put, List.setIfInBounds_toArray, List.set_cons_zero, List.set_cons_succ]
          refine hTake (i := 3) (v := ?_) rfl (by kernel_rfl) (by kernel_rfl) (by kernel_rfl) (by rfl) ?_ hH ?_
          rotate_left
          · intro W hW; (try dsimp only at hW); go_simp <;> with_reducible rfl
          simp only [Act.put, List.setIfInBounds_toArray, List.set_cons_zero, List.set_cons_succ]
          refine hTake (i := 4) (v := ?_) rfl (by kernel_rfl) (by kernel_rfl) (by kernel_rfl) (by rfl) ?_ hH ?_
          rotate_left
          · intro W hW; (try dsimp only at hW); go_simp <;> with_reducible rfl
          simp only [Act.put, List.setIfInBounds_toArray, List.set_cons_zero, List.set_cons_succ]
          refine hTake (i := 5) (v := ?_) rfl (by kernel_rfl) (by kernel_rfl) (by kernel_rfl) (by rfl) ?_ hH ?_
          rotate_left
          · intro W hW; (try dsimp only at hW); go_simp <;> with_reducible rfl
          simp only [Act.put, List.setIfInBounds_toArray, List.set_cons_zero, List.set_cons_succ]
          refine hTake (i := 6) (v := ?_) rfl (by kernel_rfl) (by kernel_rfl) (by kernel_rfl) (by rfl) ?_ hH ?_
          rotate_left
          · intro W hW; (try dsimp only at hW); go_simp <;> with_reducible rfl
          simp only [Act.put, List.setIfInBounds_toArray, List.set_cons_zero, List.set_cons_succ]
          refine hTake (i := 7) (v := ?_) rfl (by kernel_rfl) (by kernel_rfl) (by kernel_rfl) (by rfl) ?_ hH ?_
          rotate_left
          · intro W hW; (try dsimp only at hW); go_simp <;> with_reducible rfl
          simp only [Act.put, List.setIfInBounds_toArray, List.set_cons_zero, List.set_cons_succ]
          refine hTake (i := 8) (v := ?_) rfl (by kernel_rfl) (by kernel_rfl) (by kernel_rfl) (by rfl) ?_ hH ?_
          rotate_left
          · intro W hW; (try dsimp only at hW); go_simp <;> with_reducible rfl
          simp only [Act.put, List.setIfInBounds_toArray, List.set_cons_zero, List.set_cons_succ]
          refine hTake (i := 9) (v := ?_) rfl (by kernel_rfl) (by kernel_rfl) (by kernel_rfl) (by rfl) ?_ hH ?_
          rotate_left
          · intro W hW; (try dsimp only at hW); go_simp <;> with_reducible rfl
          simp only [Act.put, List.setIfInBounds_toArray, List.set_cons_zero, List.set_cons_succ]
          refine hTake (i := 10) (v := ?_) rfl (by kernel_rfl) (by kernel_rfl) (by kernel_rfl) (by rfl) ?_ hH ?_
          rotate_left
          · intro W hW; (try dsimp only at hW); go_simp <;> with_reducible rfl
          simp only [Act.put, List.setIfInBounds_toArray, List.set_cons_zero, List.set_cons_succ]
          refine hTake (i := 11) (v := ?_) rfl (by kernel_rfl) (by kernel_rfl) (by kernel_rfl) (by rfl) ?_ hH ?_
          rotate_left
          · intro W hW; (try dsimp only at hW); go_simp <;> with_reducible rfl
          simp only [Act.put, List.setIfInBounds_toArray, List.set_cons_zero, List.set_cons_succ]
          refine wpAnyH_done (by kernel_rfl) ?_ _
          refine NoPanic.normal ?_
          have hB' := hH.2.2.2
          clear hH
          have hP' : wr.drew.heap[w2.heap.size]? = some (.cells #[.int .i64 0, .slice (some ⟨rb, ro, none⟩) m2 c2] 57 (0, 0)) := hP
          go_wp2
          go_roundw
          case rel => exact ⟨k + 1, by go_num, by omega, .inl (by omega), hP', hB'⟩
          case measure => simp [intOf]; omega
        · have hnl : ¬ (k : Int) < (m2 : Int) := by omega
          have heq : ((m2 : Int) == (m2 : Int)) = true := by simp
          go_wp2
          go_ret
          exact ⟨rfl, bE.trans (hB.mono bE.size)⟩
end Go.Proofs.Ythfanfnbjldddaa

