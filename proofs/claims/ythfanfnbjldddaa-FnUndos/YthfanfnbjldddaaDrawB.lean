
/- The draw of leaves, bent ones too. -/
import Derived.Test.YthfanfnbjldddaaDrawP
namespace Go.Proofs.Ythfanfnbjldddaa
open Go.RowKit

theorem OwnLv.putS {w0 w : World} {B o n cap k : Nat} {ls : List (List Ch.Row)} {x : Value} {l : List Ch.Row} (h : OwnLv w0 B (.slice (some ⟨o, 0, none⟩) n cap) n ls) (mv : ∀ (e : TypeId) (size : Nat) (v : Value) (n : Nat) (xs : List Value), w0.ownsRow B e size v n xs → w.ownsRow B e size v n xs)
    (hx : w.ownsRow w0.heap.size 105 3 x l.length (rcells l)) (hk : k < n) (hB : B ≤ w0.heap.size) : OwnLv (w.setCell ⟨o, k, none⟩ x) B (.slice (some ⟨o, 0, none⟩) n cap) n (ls.set k l) := by
  obtain ⟨hl, vs, ho, hi, hd, hd'⟩ := h
  have ho1 := mv _ _ _ _ _ ho
  have hvl : vs.length = n := by have := ho.1; omega
  have hst := ho1.stored k x
  have hob := owns_bounds ho
  have fresh : ∀ g, x.ownBlock = some g → w0.heap.size ≤ g := fun g hg => (owns_lt hx g hg).1
  have old : ∀ (i : Nat) (y : Value) (g : Nat), vs[i]? = some y → y.ownBlock = some g → g < w0.heap.size := by
    intro i y g hy hg
    have hin : i < n := by
      rcases Nat.lt_or_ge i n with h | h
      · exact h
      · rw [List.getElem?_eq_none (by omega)] at hy; cases hy
    obtain ⟨y', h1, h2⟩ := hi i hin
    rw [hy] at h1; cases h1
    exact (owns_lt h2 g hg).2
  refine ⟨by simpa using hl, vs.set k x, hst.1, fun i hlt => ?_, ?_, ?_⟩
  · by_cases hik : k = i
    · subst hik
      refine ⟨x, by simp [hvl, hk], ?_⟩
      have e : (ls.set k l).getD k [] = l := by simp [List.getD, hl, hk]
      rw [e]
      refine owns_base (owns_grown hx hst.2 fun g hg he => ?_) hB
      have := fresh g hg
      simp at he
      omega
    · obtain ⟨y, h1, h2⟩ := hi i hlt
      refine ⟨y, by rw [List.getElem?_set_ne hik]; exact h1, ?_⟩
      have e : (ls.set k l).getD i [] = ls.getD i [] := by simp [List.getD, hik]
      rw [e]
      refine owns_grown (mv _ _ _ _ _ h2) hst.2 fun g hg he => ?_
      simp at he
      subst he
      exact hd' i y _ h1 rfl hg
  · intro i j y z g hij hy hz hyg hzg
    by_cases hik : k = i
    · subst hik
      rw [List.getElem?_set_ne (by omega)] at hz
      rw [List.getElem?_set_self (by omega)] at hy
      cases hy
      have := fresh g hyg
      have := old j z g hz hzg
      omega
    · rw [List.getElem?_set_ne hik] at hy
      by_cases hjk : k = j
      · subst hjk
        rw [List.getElem?_set_self (by omega)] at hz
        cases hz
        have := fresh g hzg
        have := old i y g hy hyg
        omega
      · rw [List.getElem?_set_ne hjk] at hz
        exact hd i j y z g hij hy hz hyg hzg
  · intro i y g hy hg hyg
    by_cases hik : k = i
    · subst hik
      rw [List.getElem?_set_self (by omega)] at hy
      cases hy
      have := fresh g hyg
      simp [Value.ownBlock] at hg
      omega
    · rw [List.getElem?_set_ne hik] at hy
      exact hd' i y g hy hg hyg


theorem OwnLv.snocS {w0 w1 w2 : World} {B n m : Nat} {v v' x : Value} {vs : List Value} {ls : List (List Ch.Row)} {l : List Ch.Row} {o : Obj} (h : OwnV w0 B v n vs ls) (mv : ∀ (e : TypeId) (size : Nat) (v : Value) (n : Nat) (xs : List Value), w0.ownsRow B e size v n xs → w1.ownsRow B e size v n xs) (hsz : w0.heap.size ≤ w1.heap.size)
    (hx : w1.ownsRow w0.heap.size 105 3 x l.length (rcells l)) (hB : B ≤ w0.heap.size) (hm : m = n + 1)
    (h2 : w2.ownsRow B 107 1 v' m (vs ++ [x])) (hg : (w1.alloc o).grownBy w2 v.ownBlock) (hat : ∀ g, v'.ownBlock = some g → v.ownBlock = some g ∨ (w1.alloc o).heap.size ≤ g) : OwnLv w2 B v' m (ls ++ [l]) := by
  subst hm
  have hlt := h.lt
  obtain ⟨hl, ho, hi, hd, hd'⟩ := h
  have hvl : vs.length = n := by have := ho.1; omega
  have ba : Below w1.heap.size w1 (w1.alloc o) := (Below.refl _ _).alloc (Nat.le_refl _) _
  have Lx := owns_lt hx
  have Lv := owns_lt ho
  have hin : ∀ (i : Nat) (y : Value), vs[i]? = some y → i < n := by
    intro i y hy
    rcases Nat.lt_or_ge i n with h | h
    · exact h
    · rw [List.getElem?_eq_none (by omega)] at hy; cases hy
  have split : ∀ (i : Nat) (y : Value), (vs ++ [x])[i]? = some y → (i < n ∧ vs[i]? = some y) ∨ (i = n ∧ y = x) := by
    intro i y hy
    rcases Nat.lt_or_ge i n with h | h
    · rw [List.getElem?_append_left (by omega)] at hy; exact .inl ⟨h, hy⟩
    · rw [List.getElem?_append_right (by omega)] at hy
      by_cases h0 : i - vs.length = 0
      · rw [h0] at hy; simp at hy; exact .inr ⟨by omega, hy.symm⟩
      · rw [List.getElem?_eq_none (by simp; omega)] at hy; cases hy
  refine ⟨by simp [hl], vs ++ [x], h2, fun i hlt' => ?_, ?_, ?_⟩
  · by_cases hin' : i = n
    · subst hin'
      refine ⟨x, by rw [List.getElem?_append_right (by omega)]; simp [hvl], ?_⟩
      have e : (ls ++ [l]).getD i [] = l := by simp [List.getD, hl]
      rw [e]
      refine owns_base (owns_grown (owns_below hx ba) hg fun g hg' he => ?_) hB
      have := Lx g hg'
      have := Lv g he
      omega
    · obtain ⟨y, h1, h3⟩ := hi i (by omega)
      refine ⟨y, by rw [List.getElem?_append_left (by omega)]; exact h1, ?_⟩
      have e : (ls ++ [l]).getD i [] = ls.getD i [] := by simp [List.getD, List.getElem?_append_left (show i < ls.length by omega)]
      rw [e]
      refine owns_grown (owns_below (mv _ _ _ _ _ h3) ba) hg fun g hg' he => ?_
      exact hd' i y g h1 he hg'
  · intro i j y z g hij hy hz hyg hzg
    rcases split i y hy with ⟨hi1, hy'⟩ | ⟨hi1, rfl⟩
    · rcases split j z hz with ⟨hj1, hz'⟩ | ⟨hj1, rfl⟩
      · exact hd i j y z g hij hy' hz' hyg hzg
      · have := hlt i y g hy' hyg
        have := Lx g hzg
        omega
    · rcases split j z hz with ⟨hj1, hz'⟩ | ⟨hj1, rfl⟩ <;> omega
  · intro i y g hy hvg hyg
    have hv' := hat g hvg
    simp only [World.alloc, Array.size_push] at hv'
    rcases split i y hy with ⟨hi1, hy'⟩ | ⟨hi1, rfl⟩
    · rcases hv' with h3 | h3
      · exact hd' i y g hy' h3 hyg
      · have := hlt i y g hy' hyg
        omega
    · have := Lx g hyg
      rcases hv' with h3 | h3
      · have := Lv g h3
        omega
      · omega

theorem moved {w w' : World} {B s : Nat} (hg : w.grownBy w' (some s)) (hs : s < B) : ∀ (e : TypeId) (size : Nat) (v : Value) (n : Nat) (xs : List Value), w.ownsRow B e size v n xs → w'.ownsRow B e size v n xs :=
  fun _ _ _ _ _ h => owns_grown h hg (fun g hg' e => by have := (owns_lt h g hg').1; simp at e; omega)

theorem made_bent (w : World) (B : Nat) (hB : B ≤ w.heap.size) : OwnLv (w.alloc (.cells (Array.replicate 61 (.slice none 0 0)) 107)) B (.slice (some ⟨w.heap.size, 0, none⟩) 61 61) 61 (List.replicate 61 []) := by
  have o := World.ownsRow_lit (base := B) (e := 107) (size := 1) w (Array.replicate 61 (.slice none 0 0)) 61 hB (by unfold maxLen; omega) (by simp)
  rw [Array.toList_replicate] at o
  have one : ∀ (i : Nat) (x : Value), (List.replicate 61 (Value.slice none 0 0))[i]? = some x → x = .slice none 0 0 := fun i x h => List.eq_of_mem_replicate (List.mem_of_getElem? h)
  refine ⟨by simp, _, o, fun i hi => ⟨.slice none 0 0, by rw [List.getElem?_replicate, if_pos hi], ?_⟩, fun i j x y g _ hx _ hg => ?_, fun i x g hx _ hg => ?_⟩
  · have e : (List.replicate 61 ([] : List Ch.Row)).getD i [] = [] := by rw [List.getD, List.getElem?_replicate, if_pos hi]; rfl
    rw [e]
    exact World.ownsRow_nil _ _ _ _
  · rw [one i x hx] at hg; simp [Value.ownBlock] at hg
  · rw [one i x hx] at hg; simp [Value.ownBlock] at hg
/-- Some leaves were drawn: not many, of few rows. -/

def Ch.bentLv (ls : List (List Ch.Row)) : Prop := Ch.lvSize ls ≤ 1000 ∧ ls.length ≤ 70 ∧ ∀ x ∈ ls, x.length ≤ 5
def BentPost (d s : Nat) (a : Option Addr) (n cap k : Nat) (zs : List Int) (w : World) (e : Ending) (w' : World) : Prop :=
  ∃ ls a' m c' k', Ch.bentLv ls ∧ e = .returned (.slice a' m c') ∧ OwnLv w' w.heap.size (.slice a' m c') m ls ∧ k' ≤ k + d ∧ Src w' s a n cap k' zs ∧ w.grownBy w' (some s)
theorem Ch.bent_size {ls : List (List Ch.Row)} (h1 : ls.length ≤ 70) (h2 : ∀ x ∈ ls, x.length ≤ 5) : Ch.bentLv ls := by
  have := Ch.sum_le ls 5 h2
  refine ⟨?_, h1, h2⟩
  unfold Ch.lvSize
  omega

set_option maxRecDepth 100000 in
set_option maxHeartbeats 4000000 in
theorem l3Bent_any (s : Nat) (a : Option Addr) (n cap k : Nat) (zs : List Int) (w : World) (h : Src w s a n cap k zs) (hb : IsB zs) (hn : n ≤ 1048580) (hk : k ≤ 200) :
    Calls Try.prog 104 #[.pointer (some ⟨s, 0, none⟩)] w (BentPost 200 s a n cap k zs w) := by
  have hsl := h.lt
  go_enter Try.func104, Try.ntmps104
  go_wp2_with fail
  refine (l3Right_any s a n cap k zs _ h hb hn (by omega)).mono ?_
  rintro e w1 ⟨ls, a1, m1, c1, k1, hg1, hl1, rfl, own1, hk1, s1, g1⟩
  have HR : Hid (∀ x ∈ ls, x.length ≤ 4) := fun x hx => (((Ch.good_iff ls).1 hg1).2.1 x hx).2
  clear hg1
  go_wp2_with fail
  refine (next_any 16 s a n cap k1 zs _ s1 hb hn (by omega) (by omega) (by omega)).mono ?_
  rintro e w2 ⟨⟨v, v0, v1, rfl⟩, s2, g2⟩
  have own2 := own1.grown g2 hsl
  have G2 := gr_trans g1 g2
  have z2 := G2.size
  have HM : Hid (m1 = ls.length) := own2.1.symm
  have hm1 : m1 ≤ 20 := by have := HM.out; omega
  clear own1 s1 g1 g2
  have hv : v = 0 ∨ v = 1 ∨ v = 2 ∨ v = 3 ∨ 3 < v := by omega
  have bA : ∀ (W : World) o, Below W.heap.size W (W.alloc o) := fun W o => (Below.refl _ _).alloc (Nat.le_refl _) _
  have hsum : m1 + 1 ≤ 2097152 := by omega
  obtain ⟨vs, hV⟩ := own2.told
  rcases hv with rfl | rfl | rfl | rfl | hv
  · go_wp2_with fail
    refine (page_any s a n cap _ zs _ s2 hb hn (by omega)).mono ?_
    rintro e w3 ⟨⟨g3, m3, c3, rfl, hm3, rs, o3⟩, ⟨k3, hk3, s3⟩, g3'⟩
    have G3 := gr_trans G2 g3'
    have z3 := g3'.size
    have hoV := moved g3' hsl _ _ _ _ _ hV.2.1
    have HRl := (owns_cells o3).rlen
    go_wp2_with (at_builtin; go_must (refine wpList_appLv (.tmp 10) (.tmp 14) w.heap.size (.slice a1 m1 c1) m1 vs 1 [.slice (some ⟨g3, 0, none⟩) m3 c3] hsum (by simp [Value.oneCell']) ?_ ?_ ?_ ?_ ?_ ?_ ?_ (by omega); exact rfl; exact rfl; exact rfl; exact ⟨_, _, rfl, one_leaf rfl⟩; exact owns_below hoV (bA _ _); (focus (simp; omega)); intro a4 c4 w4 own4 gr4 at4))
    go_ret
    have hoB := owns_lt hV.2.1
    have b4 : Below w.heap.size w3 w4 := ((Below.refl _ _).alloc (by omega) _).grown gr4 (by simp; omega) (fun j hj => (hoB j hj).1)
    refine ⟨ls ++ [rs], a4, m1 + 1, c4, k3, ?_, rfl, ?_, by omega, s3.below b4 hsl, gr_on G3 b4⟩
    · refine Ch.bent_size (by simp; omega) (fun x hx => ?_)
      rcases List.mem_append.1 hx with hx | hx
      · have := HR.out x hx; omega
      · simp only [List.mem_singleton] at hx; subst hx; have := HRl.out; omega
    · refine OwnLv.snocS hV (moved g3' hsl) z3 ?_ z2 rfl own4 gr4 at4
      rw [← HRl.out]; exact o3
  · go_wp2_with (at_builtin; go_must (refine wpList_appLv (.tmp 18) (.tmp 20) w.heap.size (.slice a1 m1 c1) m1 vs 1 [.slice none 0 0] hsum (by simp [Value.oneCell']) ?_ ?_ ?_ ?_ ?_ ?_ ?_ (by omega); exact rfl; exact rfl; exact rfl; exact ⟨_, _, rfl, one_leaf rfl⟩; exact owns_below hV.2.1 (bA _ _); (focus (simp; omega)); intro a4 c4 w4 own4 gr4 at4))
    go_ret
    have hoB := owns_lt hV.2.1
    have b4 : Below w.heap.size w2 w4 := ((Below.refl _ _).alloc (by omega) _).grown gr4 (by simp; omega) (fun j hj => (hoB j hj).1)
    refine ⟨ls ++ [[]], a4, m1 + 1, c4, k1 + 1, ?_, rfl, ?_, by omega, s2.below b4 hsl, gr_on G2 b4⟩
    · refine Ch.bent_size (by simp; omega) (fun x hx => ?_)
      rcases List.mem_append.1 hx with hx | hx
      · have := HR.out x hx; omega
      · simp only [List.mem_singleton] at hx; subst hx; simp
    · exact OwnLv.snocS hV (fun _ _ _ _ _ h => h) (Nat.le_refl _) (World.ownsRow_nil _ _ _ _) z2 rfl own4 gr4 at4
  · by_cases hm0 : 0 < m1
    · have hmi : (m1 : Int) > 0 := by omega
      obtain ⟨b, ai, ci, hbe, hbl, cg, hvk, ho, _⟩ := hV.leafAt hm0
      subst hbe
      go_wp2_with fail
      refine (page_any s a n cap _ zs _ s2 hb hn (by omega)).mono ?_
      rintro e w3 ⟨⟨g3, m3, c3, rfl, hm3, rs, o3⟩, ⟨k3, hk3, s3⟩, g3'⟩
      have G3 := gr_trans G2 g3'
      have z3 := g3'.size
      have HRl := (owns_cells o3).rlen
      have oV := moved g3' hsl _ _ _ _ _ hV.2.1
      have hbB := (owns_lt hV.2.1 b rfl).1
      have cg3 := grown_cell g3' cg (by simp; omega)
      have fg3 := oV.frozenAt 0
      have O4 := OwnLv.putS (k := 0) own2 (moved g3' hsl) (x := .slice (some ⟨g3, 0, none⟩) m3 c3) (l := rs) (by rw [← HRl.out]; exact o3) hm0 z2
      go_wp2
      go_ret
      refine ⟨ls.set 0 rs, some ⟨b, 0, none⟩, m1, c1, k3, ?_, rfl, O4, by omega, s3.set (by omega), gr_set' G3 hbB⟩
      refine Ch.bent_size (by simp; omega) (fun x hx => ?_)
      rcases List.mem_or_eq_of_mem_set hx with hx | rfl
      · have := HR.out x hx; omega
      · have := HRl.out; omega
    · obtain rfl : m1 = 0 := by omega
      go_wp2
      go_ret
      exact ⟨ls, a1, 0, c1, k1 + 1, Ch.bent_size (by have := HM.out; omega) (fun x hx => by have := HR.out x hx; omega), rfl, own2, by omega, s2, G2⟩
  · have hmk : ∀ w, (Instr.makeSlice 24 (.int .i64 61) (.int .i64 61)).run Try.prog w = .ok (.slice (some ⟨w.heap.size, 0, none⟩) 61 61) (w.alloc (.cells (Array.replicate 61 (.slice none 0 0)) 107)) := fun _ => by kernel_rfl
    have O3 := made_bent w2 w.heap.size z2
    have b3 : Below w2.heap.size w2 (w2.alloc (.cells (Array.replicate 61 (.slice none 0 0)) 107)) := bA _ _
    have s3 := s2.below b3 s2.lt
    have G3 := gr_on G2 (b3.mono z2)
    generalize hMade : w2.alloc (.cells (Array.replicate 61 (.slice none 0 0)) 107) = w3 at *
    have hmk2 := hmk w2
    rw [hMade] at hmk2
    clear hmk hMade b3
    go_wp2
    go_ret
    exact ⟨List.replicate 61 [], some ⟨w2.heap.size, 0, none⟩, 61, 61, k1 + 1, Ch.bent_size (by simp) (fun x hx => by rw [List.eq_of_mem_replicate hx]; simp), rfl, O3, by omega, s3, G3⟩
  · have u0 : (v == 0) = false := by rw [beq_eq_false_iff_ne]; omega
    have u1 : (v == 1) = false := by rw [beq_eq_false_iff_ne]; omega
    have u2 : (v == 2) = false := by rw [beq_eq_false_iff_ne]; omega
    have u3 : (v == 3) = false := by rw [beq_eq_false_iff_ne]; omega
    go_wp2
    go_ret
    exact ⟨ls, a1, m1, c1, k1 + 1, Ch.bent_size (by have := HM.out; omega) (fun x hx => by have := HR.out x hx; omega), rfl, own2, by omega, s2, G2⟩
end Go.Proofs.Ythfanfnbjldddaa
