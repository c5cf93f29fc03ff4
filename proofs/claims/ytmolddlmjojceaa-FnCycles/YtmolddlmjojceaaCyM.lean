
/- Plain: a circle that is told is one. No Go in it. -/
import Derived.Test.YtmolddlmjojceaaCysS
namespace Go.Proofs.Ytmolddlmjojceaa

theorem Ch.next_keep {es : List (Int × Int)} {f : Int → Int} {x w : Int} : ∀ (l : List (Int × Int)) (b : Int), (∀ e ∈ l, e ∈ es) → (b = 0 ∨ (x, b) ∈ es ∧ f b = w) →
    (l.foldl (fun b e => if e.1 = x ∧ f e.2 = w ∧ (b = 0 ∨ e.2 < b) then e.2 else b) b = 0 ∨ (x, l.foldl (fun b e => if e.1 = x ∧ f e.2 = w ∧ (b = 0 ∨ e.2 < b) then e.2 else b) b) ∈ es ∧ f (l.foldl (fun b e => if e.1 = x ∧ f e.2 = w ∧ (b = 0 ∨ e.2 < b) then e.2 else b) b) = w) := by
  intro l
  induction l with
  | nil => intro b _ h; exact h
  | cons e l ih =>
    intro b hs h
    rw [List.foldl_cons]
    refine ih _ (fun e' he => hs e' (List.mem_cons_of_mem _ he)) ?_
    by_cases hc : e.1 = x ∧ f e.2 = w ∧ (b = 0 ∨ e.2 < b)
    · rw [if_pos hc]
      right
      refine ⟨?_, hc.2.1⟩
      rw [← hc.1]
      exact hs e (List.mem_cons_self ..)
    · rw [if_neg hc]; exact h
theorem Ch.next_pos {f : Int → Int} {x w : Int} : ∀ (l : List (Int × Int)) (b : Int), (∀ e ∈ l, 0 < e.2) → 0 ≤ b → (0 < b ∨ ∃ e ∈ l, e.1 = x ∧ f e.2 = w) →
    0 < l.foldl (fun b e => if e.1 = x ∧ f e.2 = w ∧ (b = 0 ∨ e.2 < b) then e.2 else b) b := by
  intro l
  induction l with
  | nil =>
    intro b _ _ h
    rcases h with h | ⟨e, he, _⟩
    · exact h
    · cases he
  | cons e l ih =>
    intro b hp h0 h
    rw [List.foldl_cons]
    have he := hp e (List.mem_cons_self ..)
    have hp' := fun e' h' => hp e' (List.mem_cons_of_mem e h')
    by_cases hc : e.1 = x ∧ f e.2 = w ∧ (b = 0 ∨ e.2 < b)
    · rw [if_pos hc]; exact ih _ hp' (by omega) (.inl he)
    · rw [if_neg hc]
      refine ih _ hp' h0 ?_
      rcases h with h | ⟨e', he', h1, h2⟩
      · exact .inl h
      · rcases List.mem_cons.1 he' with rfl | he'
        · left
          have : ¬ (b = 0 ∨ e'.2 < b) := fun hh => hc ⟨h1, h2, hh⟩
          omega
        · exact .inr ⟨e', he', h1, h2⟩
/-- Where one is as far, the next one is of them. -/
theorem Ch.next_of {es : List (Int × Int)} {f : Int → Int} {x w : Int} (hp : ∀ e ∈ es, 0 < e.2) (h : ∃ u, (x, u) ∈ es ∧ f u = w) : (x, Ch.nextM es f x w) ∈ es ∧ f (Ch.nextM es f x w) = w := by
  obtain ⟨u, hu, hf⟩ := h
  have h1 := Ch.next_pos (f := f) (x := x) (w := w) es 0 hp (by omega) (.inr ⟨(x, u), hu, rfl, hf⟩)
  have h2 := Ch.next_keep (es := es) (f := f) (x := x) (w := w) es 0 (fun _ h => h) (.inl rfl)
  unfold Ch.nextM
  rcases h2 with h2 | h2
  · omega
  · exact h2
theorem Ch.size_of {es : List (Int × Int)} {f : Int → Int} {t : Int} : ∀ (l : List (Int × Int)) (s : Int), (∀ e ∈ l, e ∈ es) → (s < 0 ∨ ∃ u, (t, u) ∈ es ∧ f u = s) →
    (l.foldl (fun s e => if e.1 = t ∧ 0 ≤ f e.2 ∧ (s < 0 ∨ f e.2 < s) then f e.2 else s) s < 0 ∨ ∃ u, (t, u) ∈ es ∧ f u = l.foldl (fun s e => if e.1 = t ∧ 0 ≤ f e.2 ∧ (s < 0 ∨ f e.2 < s) then f e.2 else s) s) := by
  intro l
  induction l with
  | nil => intro s _ h; exact h
  | cons e l ih =>
    intro s hs h
    rw [List.foldl_cons]
    refine ih _ (fun e' he => hs e' (List.mem_cons_of_mem _ he)) ?_
    by_cases hc : e.1 = t ∧ 0 ≤ f e.2 ∧ (s < 0 ∨ f e.2 < s)
    · rw [if_pos hc]
      right
      refine ⟨e.2, ?_, rfl⟩
      rw [← hc.1]
      exact hs e (List.mem_cons_self ..)
    · rw [if_neg hc]; exact h

/-- From each to the next one, and from the last to the end. -/
def Ch.Links (es : List (Int × Int)) (t : Int) : Int → List Int → Prop
  | x, [] => (x, t) ∈ es
  | x, u :: l => (x, u) ∈ es ∧ Ch.Links es t u l
theorem Ch.Links.at {es : List (Int × Int)} {t : Int} : ∀ (l : List Int) (x : Int), Ch.Links es t x l → ∀ i, i < l.length + 1 → ((x :: l).getD i 0, ((x :: l) ++ [t]).getD (i + 1) 0) ∈ es := by
  intro l
  induction l with
  | nil =>
    intro x h i hi
    have : i = 0 := by simp at hi; omega
    subst this
    simpa [Ch.Links] using h
  | cons u l ih =>
    intro x h i hi
    cases i with
    | zero => simpa using h.1
    | succ i =>
      have := ih u h.2 i (by simp at hi; omega)
      simpa using this

theorem Ch.walk_links {es : List (Int × Int)} {t : Int} {f : Int → Int} (hp : ∀ e ∈ es, 0 < e.2) (hz : ∀ x, f x = 0 → x = t) (hd : ∀ x (d : Nat), f x = (d : Int) + 1 → ∃ u, (x, u) ∈ es ∧ f u = d) :
    ∀ (k : Nat) (x : Int), (∃ u, (x, u) ∈ es ∧ f u = k) → Ch.Links es t x (Ch.walkM es f k x) ∧ (∀ y ∈ Ch.walkM es f k x, 1 ≤ f y ∧ f y ≤ k) ∧ (Ch.walkM es f k x).Nodup := by
  intro k
  induction k with
  | zero =>
    intro x ⟨u, hu, hf⟩
    have := hz u (by simpa using hf)
    subst this
    exact ⟨hu, fun y hy => by simp [Ch.walkM] at hy, by simp [Ch.walkM]⟩
  | succ k ih =>
    intro x ⟨u, hu, hf⟩
    obtain ⟨h1, h2⟩ := Ch.next_of (f := f) (x := x) (w := (k : Int) + 1) hp ⟨u, hu, by simpa using hf⟩
    obtain ⟨i1, i2, i3⟩ := ih _ (hd _ k h2)
    unfold Ch.walkM
    refine ⟨⟨h1, i1⟩, fun y hy => ?_, ?_⟩
    · rcases List.mem_cons.1 hy with rfl | hy
      · rw [h2]; omega
      · have := i2 y hy; omega
    · refine List.nodup_cons.2 ⟨fun hm => ?_, i3⟩
      have := i2 _ hm
      omega

/-- What the model tells is a circle. -/
theorem Ch.cyc_is {es : List (Int × Int)} {t : Int} (hp : ∀ e ∈ es, 0 < e.2) (hself : (t, t) ∉ es) (h : ¬ (Ch.cycM es t).length = 0) :
    ∃ l, Ch.cycM es t = t :: l ∧ 0 < l.length ∧ (t :: l).Nodup ∧ Ch.Links es t t l := by
  have F := Ch.far_is (t := t) (es := es) (sc := fun x => (es.filter (fun e => decide (e.1 = x))).map (·.2)) (fun x u => by
    simp only [List.mem_map, List.mem_filter, decide_eq_true_eq]
    constructor
    · rintro ⟨e, ⟨h1, h2⟩, h3⟩; rw [← h2, ← h3]; exact h1
    · intro h; exact ⟨(x, u), ⟨h, rfl⟩, rfl⟩)
  have hz : ∀ x, Ch.farN es t es.length x = 0 → x = t := fun x hx => (F.zero x).1 (by simp [hx])
  have hzt : Ch.farN es t es.length t = 0 := by
    have := (F.zero t).2 rfl
    by_cases h0 : 0 ≤ Ch.farN es t es.length t
    · simp only [if_pos h0, Option.some.injEq] at this; omega
    · simp only [if_neg h0] at this; cases this
  have hd : ∀ x (d : Nat), Ch.farN es t es.length x = (d : Int) + 1 → ∃ u, (x, u) ∈ es ∧ Ch.farN es t es.length u = d := fun x d hx => by
    obtain ⟨u, hu, hf⟩ := F.down x d (by
      rw [if_pos (by omega)]
      congr 1
      omega)
    refine ⟨u, ?_, ?_⟩
    · simp only [List.mem_map, List.mem_filter, decide_eq_true_eq] at hu
      obtain ⟨e, ⟨h1, h2⟩, h3⟩ := hu
      rw [← h2, ← h3]; exact h1
    · by_cases h0 : 0 ≤ Ch.farN es t es.length u
      · simp only [if_pos h0, Option.some.injEq] at hf; omega
      · simp only [if_neg h0] at hf; cases hf
  unfold Ch.cycM at h ⊢
  by_cases hs : Ch.sizeM es (Ch.farN es t es.length) t < 0
  · rw [if_pos hs] at h; exact absurd rfl h
  · rw [if_neg hs]
    have hu := Ch.size_of (es := es) (f := Ch.farN es t es.length) (t := t) es (-1) (fun _ h => h) (.inl (by omega))
    rcases hu with hu | ⟨u, hu, hf⟩
    · exact absurd hu hs
    · have hm : ((Ch.sizeM es (Ch.farN es t es.length) t).toNat : Int) = Ch.sizeM es (Ch.farN es t es.length) t := by omega
      obtain ⟨i1, i2, i3⟩ := Ch.walk_links hp hz hd (Ch.sizeM es (Ch.farN es t es.length) t).toNat t ⟨u, hu, by rw [hm]; exact hf⟩
      refine ⟨_, rfl, ?_, ?_, i1⟩
      · rw [Ch.walk_len]
        rcases Nat.eq_zero_or_pos (Ch.sizeM es (Ch.farN es t es.length) t).toNat with h0 | h0
        · exfalso
          have : Ch.farN es t es.length u = 0 := by rw [hf]; show Ch.sizeM es (Ch.farN es t es.length) t = 0; omega
          have := hz u this
          subst this
          exact hself hu
        · exact h0
      · refine List.nodup_cons.2 ⟨fun hm => ?_, i3⟩
        have := i2 _ hm
        omega

theorem Ch.prE_mem {es : List Ch.Hold} {x u : Int} : (x, u) ∈ Ch.prE es ↔ (⟨x, u⟩ : Ch.Hold) ∈ es := by
  unfold Ch.prE
  simp only [List.mem_map, Prod.mk.injEq]
  constructor
  · rintro ⟨⟨a, b⟩, h1, h2, h3⟩; simp only at h2 h3; rw [← h2, ← h3]; exact h1
  · intro h; exact ⟨_, h, rfl, rfl⟩
end Go.Proofs.Ytmolddlmjojceaa
