
/- Leaves put in the place of two: the program's. -/
import Derived.Test.YtofhkncdjjlllaaMrgB
import Derived.Test.YtofhkncdjjlllaaMrgZ
import Derived.Test.YtofhkncdjjlllaaDropI
namespace Go.Proofs.Ytofhkncdjjlllaa
open Go.RowKit

/-- Leaves in place of two: the new ones are older than the list. -/
theorem OwnV.two {W w2 : World} {B C g n cap k N c' : Nat} {vs us : List Value} {ls ms : List (List Ch.Row)} (h : OwnV W C (.slice (some ⟨g, 0, none⟩) n cap) n vs ls) (hk : k + 1 < n) (hB : B ≤ C) (hN : N + 2 = n + us.length) (hul : us.length = ms.length)
    (hu : ∀ (i : Nat) (x : Value), us[i]? = some x → W.ownsRow B 42 3 x (ms.getD i []).length (rcells (ms.getD i [])))
    (hlt : ∀ (i : Nat) (x : Value) (q : Nat), us[i]? = some x → x.ownBlock = some q → q < C)
    (hds : ∀ (i j : Nat) (x y : Value) (q : Nat), i < j → us[i]? = some x → us[j]? = some y → x.ownBlock = some q → y.ownBlock ≠ some q)
    (h2 : w2.ownsRow C 59 1 (.slice (some ⟨g, 0, none⟩) N c') N (vs.take k ++ us ++ vs.drop (k + 2))) (hg : W.grownBy w2 (some g)) : OwnLv w2 B (.slice (some ⟨g, 0, none⟩) N c') N (ls.take k ++ ms ++ ls.drop (k + 2)) := by
  have hvt := h.lt
  obtain ⟨hl, ho, hi, hd, hd'⟩ := h
  have hvl : vs.length = n := by have := ho.1; omega
  have hgl := owns_lt ho g rfl
  have get : ∀ j, (vs.take k ++ us ++ vs.drop (k + 2))[j]? = if j < k then vs[j]? else if j < k + us.length then us[j - k]? else vs[j + 2 - us.length]? := by
    intro j
    have htl : (vs.take k).length = k := by simp; omega
    by_cases h1 : j < k
    · rw [if_pos h1, List.append_assoc, List.getElem?_append_left (by omega), List.getElem?_take, if_pos h1]
    · rw [if_neg h1]
      by_cases h2 : j < k + us.length
      · rw [if_pos h2, List.append_assoc, List.getElem?_append_right (by omega), List.getElem?_append_left (by omega), htl]
      · rw [if_neg h2, List.getElem?_append_right (by simp; omega), List.getElem?_drop]
        simp only [List.length_append, htl]
        congr 1; omega
  have getl : ∀ j, (ls.take k ++ ms ++ ls.drop (k + 2)).getD j [] = if j < k then ls.getD j [] else if j < k + us.length then ms.getD (j - k) [] else ls.getD (j + 2 - us.length) [] := by
    intro j
    have htl : (ls.take k).length = k := by simp; omega
    simp only [List.getD]
    by_cases h1 : j < k
    · rw [if_pos h1, List.append_assoc, List.getElem?_append_left (by omega), List.getElem?_take, if_pos h1]
    · rw [if_neg h1]
      by_cases h2 : j < k + us.length
      · rw [if_pos h2, List.append_assoc, List.getElem?_append_right (by omega), List.getElem?_append_left (by omega), htl]
      · rw [if_neg h2, List.getElem?_append_right (by simp; omega), List.getElem?_drop]
        simp only [List.length_append, htl]
        congr 2; omega
  have tell : ∀ (j : Nat) (y : Value), (vs.take k ++ us ++ vs.drop (k + 2))[j]? = some y → (k ≤ j ∧ j < k + us.length ∧ us[j - k]? = some y) ∨ ((j < k ∨ k + us.length ≤ j) ∧ vs[if j < k then j else j + 2 - us.length]? = some y) := by
    intro j y hy
    rw [get] at hy
    by_cases h1 : j < k
    · rw [if_pos h1] at hy
      exact .inr ⟨.inl h1, by rw [if_pos h1]; exact hy⟩
    · rw [if_neg h1] at hy
      by_cases h2 : j < k + us.length
      · rw [if_pos h2] at hy
        exact .inl ⟨by omega, h2, hy⟩
      · rw [if_neg h2] at hy
        exact .inr ⟨.inr (by omega), by rw [if_neg h1]; exact hy⟩
  refine ⟨by simp; omega, _, owns_base h2 hB, fun j hj => ?_, ?_, ?_⟩
  · rw [get, getl]
    by_cases h1 : j < k
    · rw [if_pos h1, if_pos h1]
      obtain ⟨y, h3, h4⟩ := hi j (by omega)
      refine ⟨y, h3, owns_base (owns_grown h4 hg fun q hq e => ?_) hB⟩
      simp at e
      subst e
      exact hd' j y _ h3 rfl hq
    · rw [if_neg h1, if_neg h1]
      by_cases h5 : j < k + us.length
      · rw [if_pos h5, if_pos h5]
        obtain ⟨x, hx⟩ : ∃ x, us[j - k]? = some x := ⟨us[j - k], List.getElem?_eq_getElem (by omega)⟩
        refine ⟨x, hx, owns_grown (hu _ x hx) hg fun q hq e => ?_⟩
        simp at e
        have := hlt _ x q hx hq
        omega
      · rw [if_neg h5, if_neg h5]
        obtain ⟨y, h3, h4⟩ := hi (j + 2 - us.length) (by omega)
        refine ⟨y, h3, owns_base (owns_grown h4 hg fun q hq e => ?_) hB⟩
        simp at e
        subst e
        exact hd' _ y _ h3 rfl hq
  · intro j1 j2 y z q hj hy hz hyq hzq
    rcases tell j1 y hy with ⟨a1, a2, a3⟩ | ⟨a1, a2⟩
    · rcases tell j2 z hz with ⟨b1, b2, b3⟩ | ⟨b1, b2⟩
      · exact hds _ _ y z q (by omega) a3 b3 hyq hzq
      · have := hlt _ y q a3 hyq
        have := hvt _ z q b2 hzq
        omega
    · rcases tell j2 z hz with ⟨b1, b2, b3⟩ | ⟨b1, b2⟩
      · have := hlt _ z q b3 hzq
        have := hvt _ y q a2 hyq
        omega
      · exact hd _ _ y z q (by split <;> split <;> omega) a2 b2 hyq hzq
  · intro j y q hy hv hyq
    simp [Value.ownBlock] at hv
    subst hv
    rcases tell j y hy with ⟨a1, a2, a3⟩ | ⟨a1, a2⟩
    · have := hlt _ y g a3 hyq
      omega
    · exact hd' _ y _ a2 rfl hyq

set_option maxHeartbeats 800000 in
theorem putPair_one (a : Option Addr) (n cap k vb B : Nat) (ls : List (List Ch.Row)) (x : Value) (l : List Ch.Row) (w : World) (h : LvAt w a n ls) (hs : Ch.lvSize ls ≤ 1048576) (hg : ∀ k, k < n → (ls.getD k []).length ≠ 0) (hk : k + 1 < n)
    (hx : w.ownsRow B 42 3 x l.length (rcells l)) (hv : CellsAt w (some ⟨vb, 0, none⟩) 1 [x]) (hB : B ≤ w.heap.size) :
    Calls Try.prog 83 #[.slice a n cap, .int .i64 k, .slice (some ⟨vb, 0, none⟩) 1 1] w fun e w' => ∃ g c', e = .returned (.slice (some ⟨g, 0, none⟩) (n - 1) c') ∧ OwnLv w' B (.slice (some ⟨g, 0, none⟩) (n - 1) c') (n - 1) (Ch.twoIn ls k [l]) ∧ Below w.heap.size w w' := by
  have HL := h.len
  have hn : n ≤ 1048576 := by unfold Ch.lvSize at hs; have := HL.out; omega
  have hwk : IntKind.i64.wrap ((k : Int) + 2) = (k : Int) + 2 := IntWalk.i64_in _ ⟨by omega, by omega⟩
  have h1 : x.oneCell' = true := by obtain ⟨a1, c1, rfl⟩ := owns_shape hx; rfl
  go_enter Try.func83, Try.ntmps83
  go_wp2_with fail
  refine (cloneLeaves_any a n cap ls w h hs hg (by omega)).mono ?_
  rintro e w1 ⟨g, c1, rfl, o1, b1⟩
  obtain ⟨vs, hV⟩ := o1.told
  have hone := inner_one hV
  have hgb := owns_lt hV.2.1 g rfl
  have hx1 := owns_below hx b1
  have hxl := owns_lt hx
  go_wp2_with fail
  refine (replace_one w.heap.size g n c1 k vb vs [x] w1 hV.2.1 (hv.below b1) (by simpa using h1) hone hn hk).mono ?_
  rintro e w2 ⟨rfl, own2, gr2⟩
  go_wp2
  go_ret
  refine ⟨g, c1, rfl, ?_, b1.grown gr2 (by omega) (fun q hq => by simp at hq; omega)⟩
  refine OwnV.two (us := [x]) (ms := [l]) hV hk hB (by simp; omega) rfl (fun i y hy => ?_) (fun i y q hy hq => ?_) (fun i j y z q hij hy hz => ?_) own2 gr2
  · rcases i with _ | i
    · simp at hy
      subst hy
      exact hx1
    · simp at hy
  · rcases i with _ | i
    · simp at hy
      subst hy
      exact (hxl q hq).2
    · simp at hy
  · rcases j with _ | j
    · omega
    · simp at hz

set_option maxHeartbeats 800000 in
theorem putPair_two (a : Option Addr) (n cap k vb B : Nat) (ls : List (List Ch.Row)) (x y : Value) (l m : List Ch.Row) (w : World) (h : LvAt w a n ls) (hs : Ch.lvSize ls ≤ 1048576) (hg : ∀ k, k < n → (ls.getD k []).length ≠ 0) (hk : k + 1 < n)
    (hx : w.ownsRow B 42 3 x l.length (rcells l)) (hy : w.ownsRow B 42 3 y m.length (rcells m)) (hxy : ∀ q, x.ownBlock = some q → y.ownBlock ≠ some q) (hv : CellsAt w (some ⟨vb, 0, none⟩) 2 [x, y]) (hB : B ≤ w.heap.size) :
    Calls Try.prog 83 #[.slice a n cap, .int .i64 k, .slice (some ⟨vb, 0, none⟩) 2 2] w fun e w' => ∃ g c', e = .returned (.slice (some ⟨g, 0, none⟩) n c') ∧ OwnLv w' B (.slice (some ⟨g, 0, none⟩) n c') n (Ch.twoIn ls k [l, m]) ∧ Below w.heap.size w w' := by
  have HL := h.len
  have hn : n ≤ 1048576 := by unfold Ch.lvSize at hs; have := HL.out; omega
  have hwk : IntKind.i64.wrap ((k : Int) + 2) = (k : Int) + 2 := IntWalk.i64_in _ ⟨by omega, by omega⟩
  have h1 : x.oneCell' = true := by obtain ⟨a1, c1, rfl⟩ := owns_shape hx; rfl
  have h1' : y.oneCell' = true := by obtain ⟨a1, c1, rfl⟩ := owns_shape hy; rfl
  go_enter Try.func83, Try.ntmps83
  go_wp2_with fail
  refine (cloneLeaves_any a n cap ls w h hs hg (by omega)).mono ?_
  rintro e w1 ⟨g, c1, rfl, o1, b1⟩
  obtain ⟨vs, hV⟩ := o1.told
  have hone := inner_one hV
  have hgb := owns_lt hV.2.1 g rfl
  have hx1 := owns_below hx b1
  have hy1 := owns_below hy b1
  have hxl := owns_lt hx
  have hyl := owns_lt hy
  go_wp2_with fail
  refine (replace_two w.heap.size g n c1 k vb vs [x, y] w1 hV.2.1 (hv.below b1) (by simp [h1, h1']) hone hn hk).mono ?_
  rintro e w2 ⟨rfl, own2, gr2⟩
  go_wp2
  go_ret
  refine ⟨g, c1, rfl, ?_, b1.grown gr2 (by omega) (fun q hq => by simp at hq; omega)⟩
  refine OwnV.two (us := [x, y]) (ms := [l, m]) hV hk hB (by simp) rfl (fun i u hu => ?_) (fun i u q hu hq => ?_) (fun i j u z q hij hu hz huq => ?_) own2 gr2
  · rcases i with _ | _ | i
    · simp at hu
      subst hu
      exact hx1
    · simp at hu
      subst hu
      exact hy1
    · simp at hu
  · rcases i with _ | _ | i
    · simp at hu
      subst hu
      exact (hxl q hq).2
    · simp at hu
      subst hu
      exact (hyl q hq).2
    · simp at hu
  · rcases j with _ | _ | j
    · omega
    · obtain rfl : i = 0 := by omega
      simp at hu hz
      subst hu hz
      exact hxy q huq
    · simp at hz
end Go.Proofs.Ytofhkncdjjlllaa
