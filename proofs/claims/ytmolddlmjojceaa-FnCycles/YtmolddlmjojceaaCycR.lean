
/- Plain: the circle that is found breadth first is the one that the model tells. No Go in it. -/
import Derived.Test.YtmolddlmjojceaaCycB
import Derived.Test.YtmolddlmjojceaaCycF
namespace Go.Proofs.Ytmolddlmjojceaa

/-- Of those to which x leads the least that is so far; 0: there is none. -/
def Ch.nextM (es : List (Int × Int)) (f : Int → Int) (x w : Int) : Int := es.foldl (fun b e => if e.1 = x ∧ f e.2 = w ∧ (b = 0 ∨ e.2 < b) then e.2 else b) 0
def Ch.sizeM (es : List (Int × Int)) (f : Int → Int) (t : Int) : Int := es.foldl (fun s e => if e.1 = t ∧ 0 ≤ f e.2 ∧ (s < 0 ∨ f e.2 < s) then f e.2 else s) (-1)
def Ch.walkM (es : List (Int × Int)) (f : Int → Int) : Nat → Int → List Int
  | 0, _ => []
  | k + 1, x => Ch.nextM es f x ((k : Int) + 1) :: Ch.walkM es f k (Ch.nextM es f x ((k : Int) + 1))
def Ch.cycM (es : List (Int × Int)) (t : Int) : List Int :=
  if Ch.sizeM es (Ch.farN es t es.length) t < 0 then [] else t :: Ch.walkM es (Ch.farN es t es.length) (Ch.sizeM es (Ch.farN es t es.length) t).toNat t

theorem Ch.next_fold {f : Int → Int} {x w u : Int} : ∀ (es : List (Int × Int)) (b : Int), (∀ e ∈ es, 0 < e.2) → (b = 0 ∨ (0 < b ∧ u ≤ b)) → (b = u ∨ (x, u) ∈ es ∧ f u = w) → (∀ e ∈ es, e.1 = x → f e.2 = w → u ≤ e.2) → 0 < u →
    es.foldl (fun b e => if e.1 = x ∧ f e.2 = w ∧ (b = 0 ∨ e.2 < b) then e.2 else b) b = u := by
  intro es
  induction es with
  | nil =>
    intro b _ _ h _ _
    rcases h with h | h
    · exact h
    · cases h.1
  | cons e es ih =>
    intro b hp hb h hl hu
    rw [List.foldl_cons]
    have hp' := fun e' he => hp e' (List.mem_cons_of_mem _ he)
    have hl' := fun e' he => hl e' (List.mem_cons_of_mem _ he)
    have he2 := hp e (List.mem_cons_self ..)
    by_cases hc : e.1 = x ∧ f e.2 = w ∧ (b = 0 ∨ e.2 < b)
    · rw [if_pos hc]
      have hle := hl e (List.mem_cons_self ..) hc.1 hc.2.1
      refine ih e.2 hp' (.inr ⟨he2, hle⟩) ?_ hl' hu
      rcases h with h | h
      · left
        rcases hc.2.2 with h0 | h0
        · omega
        · omega
      · rcases List.mem_cons.1 h.1 with h1 | h1
        · left; rw [← h1]
        · exact .inr ⟨h1, h.2⟩
    · rw [if_neg hc]
      refine ih b hp' hb ?_ hl' hu
      rcases h with h | h
      · exact .inl h
      · rcases List.mem_cons.1 h.1 with h1 | h1
        · left
          have h3 : e.1 = x := by rw [← h1]
          have h4 : e.2 = u := by rw [← h1]
          have : ¬ (b = 0 ∨ e.2 < b) := fun hh => hc ⟨h3, by rw [h4]; exact h.2, hh⟩
          rcases hb with hb | hb
          · exact absurd (.inl hb) this
          · omega
        · exact .inr ⟨h1, h.2⟩
theorem Ch.next_is {es : List (Int × Int)} {f : Int → Int} {x w u : Int} (hp : ∀ e ∈ es, 0 < e.2) (hm : (x, u) ∈ es) (hf : f u = w) (hl : ∀ e ∈ es, e.1 = x → f e.2 = w → u ≤ e.2) : Ch.nextM es f x w = u :=
  Ch.next_fold es 0 hp (.inl rfl) (.inr ⟨hm, hf⟩) hl (hp _ hm)

theorem Ch.size_fold {f : Int → Int} {t m : Int} (hm : 0 ≤ m) : ∀ (es : List (Int × Int)) (s : Int), (s < 0 ∨ m ≤ s) → (s = m ∨ ∃ e ∈ es, e.1 = t ∧ f e.2 = m) → (∀ e ∈ es, e.1 = t → 0 ≤ f e.2 → m ≤ f e.2) →
    es.foldl (fun s e => if e.1 = t ∧ 0 ≤ f e.2 ∧ (s < 0 ∨ f e.2 < s) then f e.2 else s) s = m := by
  intro es
  induction es with
  | nil =>
    intro s _ h _
    rcases h with h | ⟨e, he, _⟩
    · exact h
    · cases he
  | cons e es ih =>
    intro s hs h hl
    rw [List.foldl_cons]
    have hl' := fun e' he => hl e' (List.mem_cons_of_mem _ he)
    by_cases hc : e.1 = t ∧ 0 ≤ f e.2 ∧ (s < 0 ∨ f e.2 < s)
    · rw [if_pos hc]
      have hle := hl e (List.mem_cons_self ..) hc.1 hc.2.1
      refine ih (f e.2) (.inr hle) ?_ hl'
      rcases h with h | ⟨e', he', h1, h2⟩
      · left; rcases hc.2.2 with h0 | h0 <;> omega
      · rcases List.mem_cons.1 he' with rfl | he'
        · exact .inl h2
        · exact .inr ⟨e', he', h1, h2⟩
    · rw [if_neg hc]
      refine ih s hs ?_ hl'
      rcases h with h | ⟨e', he', h1, h2⟩
      · exact .inl h
      · rcases List.mem_cons.1 he' with rfl | he'
        · left
          have : ¬ (s < 0 ∨ f e'.2 < s) := fun hh => hc ⟨h1, by omega, hh⟩
          omega
        · exact .inr ⟨e', he', h1, h2⟩
theorem Ch.size_none {f : Int → Int} {t : Int} : ∀ (es : List (Int × Int)), (∀ e ∈ es, e.1 = t → f e.2 < 0) → es.foldl (fun s e => if e.1 = t ∧ 0 ≤ f e.2 ∧ (s < 0 ∨ f e.2 < s) then f e.2 else s) (-1 : Int) = -1 := by
  intro es
  induction es with
  | nil => intro _; rfl
  | cons e es ih =>
    intro h
    rw [List.foldl_cons, if_neg (fun hc => by have := h e (List.mem_cons_self ..) hc.1; omega)]
    exact ih (fun e' he => h e' (List.mem_cons_of_mem _ he))

/-- So many steps back. -/
def Ch.upBy (par : Nat → Nat) : Nat → Nat → Nat
  | 0, p => p
  | k + 1, p => par (Ch.upBy par k p)
/-- The circle that comes back from the how manieth. -/
def Ch.circle (s : Ch.Rch) (p : Nat) : List Int := (List.range (s.lev p + 1)).map (fun i => s.v (Ch.upBy s.par (s.lev p - i) p))

theorem Ch.way_of {sc : Int → List Int} {t : Int} {v : Nat → Int} {par lev : Nat → Nat} {N p : Nat} (T : Ch.Tree sc t v par lev N p) (hp : p < N) : Ch.Way par lev p (lev p) (fun i => Ch.upBy par (lev p - i) p) := by
  have key : ∀ k, k ≤ lev p → lev (Ch.upBy par k p) = lev p - k ∧ Ch.upBy par k p < N := by
    intro k
    induction k with
    | zero => intro _; exact ⟨rfl, hp⟩
    | succ k ih =>
      intro hk
      obtain ⟨h1, h2⟩ := ih (by omega)
      have h0 : 0 < Ch.upBy par k p := by
        rcases Nat.eq_zero_or_pos (Ch.upBy par k p) with h | h
        · rw [h, T.lev0] at h1; omega
        · exact h
      have h3 := T.from_ _ h0 h2
      refine ⟨?_, ?_⟩
      · show lev (par (Ch.upBy par k p)) = _
        omega
      · show par (Ch.upBy par k p) < N
        omega
  refine ⟨?_, fun i hi => ?_, fun i hi => ?_⟩
  · show Ch.upBy par (lev p - lev p) p = p
    rw [Nat.sub_self]; rfl
  · show Ch.upBy par (lev p - i) p = par (Ch.upBy par (lev p - (i + 1)) p)
    rw [show lev p - i = (lev p - (i + 1)) + 1 by omega]
    rfl
  · have := (key (lev p - i) (by omega)).1
    show lev (Ch.upBy par (lev p - i) p) = i
    omega

theorem Ch.walk_is {es : List (Int × Int)} {t : Int} {sc : Int → List Int} (hsc : ∀ x u, u ∈ sc x ↔ (x, u) ∈ es) (hpos : ∀ e ∈ es, 0 < e.2) {v : Nat → Int} {par lev : Nat → Nat} {N p m : Nat} {al : Nat → Nat} (T : Ch.Tree sc t v par lev N p) (A : Ch.Way par lev p m al) (hp : p < N) (hm : lev p = m) (hf : t ∈ sc (v p)) :
    ∀ k i, i + k = m → Ch.walkM es (Ch.farN es t es.length) k (v (al i)) = (List.range k).map (fun j => v (al (i + 1 + j))) := by
  have F := Ch.far_is (t := t) hsc
  intro k
  induction k with
  | zero => intro i _; rfl
  | succ k ih =>
    intro i hi
    obtain ⟨h1, h2, h3⟩ := A.next T F hp hm hf i k (by omega)
    have far_eq : ∀ u, (if 0 ≤ Ch.farN es t es.length u then some (Ch.farN es t es.length u).toNat else none) = some (k + 1) ↔ Ch.farN es t es.length u = (k : Int) + 1 := by
      intro u
      by_cases h0 : 0 ≤ Ch.farN es t es.length u
      · rw [if_pos h0]; simp only [Option.some.injEq]; omega
      · rw [if_neg h0]
        constructor
        · intro h; cases h
        · intro h; omega
    have hn : Ch.nextM es (Ch.farN es t es.length) (v (al i)) ((k : Int) + 1) = v (al (i + 1)) := by
      refine Ch.next_is hpos ((hsc _ _).1 h1) ((far_eq _).1 h2) (fun e he e1 e2 => ?_)
      exact h3 e.2 ((hsc _ _).2 (by rw [← e1]; exact he)) ((far_eq _).2 e2)
    unfold Ch.walkM
    rw [hn, ih (i + 1) (by omega), List.range_succ_eq_map, List.map_cons, List.map_map]
    congr 1
    apply List.map_congr_left
    intro j _
    show v (al (i + 1 + 1 + j)) = v (al (i + 1 + (j + 1)))
    congr 2
    omega

/-- What is found is what the model tells. -/
theorem Ch.circle_is {es : List (Int × Int)} {t : Int} {sc : Int → List Int} (hsc : ∀ x u, u ∈ sc x ↔ (x, u) ∈ es) (hpos : ∀ e ∈ es, 0 < e.2) (hself : t ∉ sc t) {s : Ch.Rch} {p : Nat} (T : Ch.Tree sc t s.v s.par s.lev s.vs.length p) (hp : p < s.vs.length) (hf : t ∈ sc (s.v p)) : Ch.cycM es t = Ch.circle s p := by
  have F := Ch.far_is (t := t) hsc
  have A := Ch.way_of T hp
  have hp0 : 0 < p := by
    rcases Nat.eq_zero_or_pos p with h | h
    · subst h; rw [T.v0] at hf; exact absurd hf hself
    · exact h
  have hm0 : 0 < s.lev p := by have := T.from_ p hp0 hp; omega
  have hal0 : Ch.upBy s.par (s.lev p - 0) p = 0 := by
    have h1 : s.lev (Ch.upBy s.par (s.lev p - 0) p) = 0 := A.lev_ 0 (by omega)
    have h2 : Ch.upBy s.par (s.lev p - 0) p ≤ p := (A.inN T hp (s.lev p) 0 (by omega)).1
    rcases Nat.eq_zero_or_pos (Ch.upBy s.par (s.lev p - 0) p) with h | h
    · exact h
    · have h3 := T.from_ _ h (by omega)
      omega
  obtain ⟨m, hm⟩ : ∃ m, s.lev p = m + 1 := ⟨s.lev p - 1, by omega⟩
  have hnx := A.next T F hp rfl hf 0 m (by omega)
  simp only [hal0, T.v0] at hnx
  have hsz : Ch.sizeM es (Ch.farN es t es.length) t = (s.lev p : Int) := by
    refine Ch.size_fold (by omega) es (-1) (.inl (by omega)) (.inr ⟨(t, _), (hsc _ _).1 hnx.1, rfl, ?_⟩) (fun e he e1 e2 => ?_)
    · have := hnx.2.1
      by_cases h0 : 0 ≤ Ch.farN es t es.length (s.v (Ch.upBy s.par (s.lev p - (0 + 1)) p))
      · simp only [if_pos h0, Option.some.injEq] at this
        have hz : Ch.farN es t es.length (s.v (Ch.upBy s.par (s.lev p - (0 + 1)) p)) = (s.lev p : Int) := by omega
        exact hz
      · simp only [if_neg h0] at this; cases this
    · have := T.size F hp0 (u := e.2) (d := (Ch.farN es t es.length e.2).toNat) ((hsc _ _).2 (by rw [← e1]; exact he)) (by simp only [if_pos e2])
      omega
  unfold Ch.cycM
  rw [hsz, if_neg (by omega)]
  have hw := Ch.walk_is hsc hpos T A hp rfl hf (s.lev p) 0 (by omega)
  simp only [hal0, T.v0] at hw
  have e2 : ((s.lev p : Int)).toNat = s.lev p := by omega
  rw [e2, hw]
  unfold Ch.circle
  rw [List.range_succ_eq_map, List.map_cons, List.map_map, hal0, T.v0]
  congr 1
  apply List.map_congr_left
  intro j _
  show s.v (Ch.upBy s.par (s.lev p - (0 + 1 + j)) p) = s.v (Ch.upBy s.par (s.lev p - (j + 1)) p)
  congr 2
  omega
theorem Ch.circle_none {es : List (Int × Int)} {t : Int} {sc : Int → List Int} (hsc : ∀ x u, u ∈ sc x ↔ (x, u) ∈ es) {s : Ch.Rch} {p : Nat} (T : Ch.Tree sc t s.v s.par s.lev s.vs.length p) (hp : p = s.vs.length) (hN : 0 < s.vs.length) : Ch.cycM es t = [] := by
  have F := Ch.far_is (t := t) hsc
  have hsz : Ch.sizeM es (Ch.farN es t es.length) t = -1 := by
    refine Ch.size_none es (fun e he e1 => ?_)
    rcases Int.lt_or_le (Ch.farN es t es.length e.2) 0 with h | h
    · exact h
    · exact absurd (by simp only [if_pos h]) (T.none_at F hp hN (u := e.2) ((hsc _ _).2 (by rw [← e1]; exact he)) (Ch.farN es t es.length e.2).toNat)
  unfold Ch.cycM
  rw [hsz, if_pos (by omega)]
end Go.Proofs.Ytmolddlmjojceaa
