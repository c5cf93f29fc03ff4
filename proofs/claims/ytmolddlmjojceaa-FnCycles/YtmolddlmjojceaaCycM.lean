
/- Plain: who is reached first, breadth first, makes the least of the shortest circles. No Go in it. -/
import Derived.Test.YtmolddlmjojceaaProg
namespace Go.Proofs.Ytmolddlmjojceaa

/-- Ones that are reached in their order: whom each was reached from, and how far off. -/
structure Ch.Tree (sc : Int → List Int) (t : Int) (v : Nat → Int) (par lev : Nat → Nat) (N p : Nat) : Prop where
  v0 : v 0 = t
  lev0 : lev 0 = 0
  inj : ∀ i j, i < N → j < N → v i = v j → i = j
  from_ : ∀ i, 0 < i → i < N → par i < i ∧ v i ∈ sc (v (par i)) ∧ lev i = lev (par i) + 1
  mono : ∀ i j, 0 < i → i ≤ j → j < N → par i ≤ par j
  sib : ∀ i j, 0 < i → i < j → j < N → par i = par j → v i < v j
  first : ∀ i k, 0 < i → i < N → k < par i → v i ∉ sc (v k)
  closed : ∀ k, k < p → ∀ u ∈ sc (v k), u ≠ t ∧ ∃ j, 0 < j ∧ j < N ∧ v j = u

/-- How far each is from coming to one. -/
structure Ch.Far (sc : Int → List Int) (t : Int) (far : Int → Option Nat) : Prop where
  zero : ∀ x, far x = some 0 ↔ x = t
  down : ∀ x d, far x = some (d + 1) → ∃ u ∈ sc x, far u = some d
  up : ∀ x u d, u ∈ sc x → far u = some d → ∃ d', d' ≤ d + 1 ∧ far x = some d'

theorem Ch.Tree.lev_mono {sc : Int → List Int} {t : Int} {v : Nat → Int} {par lev : Nat → Nat} {N p : Nat} (T : Ch.Tree sc t v par lev N p) : ∀ j i, i ≤ j → j < N → lev i ≤ lev j := by
  intro j
  induction j using Nat.strongRecOn with
  | _ j ih =>
    intro i hij hj
    by_cases hi : i = 0
    · subst hi; rw [T.lev0]; omega
    · have h1 := T.from_ i (by omega) (by omega)
      have h2 := T.from_ j (by omega) hj
      have h3 := ih (par j) h2.1 (par i) (T.mono i j (by omega) hij hj) (by omega)
      omega

/-- No circle is shorter than the first that comes back. -/
theorem Ch.Tree.bound {sc : Int → List Int} {t : Int} {v : Nat → Int} {par lev : Nat → Nat} {N p : Nat} (T : Ch.Tree sc t v par lev N p) {far : Int → Option Nat} (F : Ch.Far sc t far) : ∀ d k, k < N → far (v k) = some (d + 1) → lev p + 1 ≤ lev k + (d + 1) := by
  intro d
  induction d with
  | zero =>
    intro k hk hf
    obtain ⟨u, hu, hz⟩ := F.down _ _ hf
    have ht := (F.zero u).1 hz
    subst ht
    by_cases hkp : k < p
    · exact absurd rfl (T.closed k hkp u hu).1
    · have := T.lev_mono k p (by omega) hk
      omega
  | succ d ih =>
    intro k hk hf
    by_cases hkp : k < p
    · obtain ⟨u, hu, hz⟩ := F.down _ _ hf
      obtain ⟨_, j, hj0, hjN, rfl⟩ := T.closed k hkp u hu
      have h1 := ih j hjN hz
      have h2 := T.from_ j hj0 hjN
      have h3 : par j ≤ k := by
        rcases Nat.lt_or_ge k (par j) with h | h
        · exact absurd hu (T.first j k hj0 hjN h)
        · exact h
      have h4 := T.lev_mono k (par j) h3 hk
      omega
    · have := T.lev_mono k p (by omega) hk
      omega

section
variable {sc : Int → List Int} {t : Int} {v : Nat → Int} {par lev : Nat → Nat} {N p m : Nat} {far : Int → Option Nat} {al : Nat → Nat}

/-- The way back from the first that comes back to the one. -/
structure Ch.Way (par lev : Nat → Nat) (p m : Nat) (al : Nat → Nat) : Prop where
  top : al m = p
  step : ∀ i, i < m → al i = par (al (i + 1))
  lev_ : ∀ i, i ≤ m → lev (al i) = i

theorem Ch.Way.inN (T : Ch.Tree sc t v par lev N p) (A : Ch.Way par lev p m al) (hp : p < N) : ∀ k i, i + k = m → al i ≤ p ∧ (0 < k → al i < p) := by
  intro k
  induction k with
  | zero =>
    intro i hi
    have : i = m := by omega
    subst this
    exact ⟨by rw [A.top]; omega, fun h => by omega⟩
  | succ k ih =>
    intro i hi
    have h1 := ih (i + 1) (by omega)
    have h2 := A.step i (by omega)
    have h0 : 0 < al (i + 1) := by
      rcases Nat.eq_zero_or_pos (al (i + 1)) with h | h
      · have := A.lev_ (i + 1) (by omega)
        rw [h, T.lev0] at this
        omega
      · exact h
    have h3 := T.from_ (al (i + 1)) h0 (by omega)
    exact ⟨by omega, fun _ => by omega⟩

theorem Ch.Way.pos (T : Ch.Tree sc t v par lev N p) (A : Ch.Way par lev p m al) {i : Nat} (h0 : 0 < i) (hi : i ≤ m) : 0 < al i := by
  rcases Nat.eq_zero_or_pos (al i) with h | h
  · have := A.lev_ i hi
    rw [h, T.lev0] at this
    omega
  · exact h

/-- How far those on the way are. -/
theorem Ch.Way.far_ (T : Ch.Tree sc t v par lev N p) (F : Ch.Far sc t far) (A : Ch.Way par lev p m al) (hp : p < N) (hm : lev p = m) (hf : t ∈ sc (v p)) : ∀ k i, i + k = m → 0 < i → far (v (al i)) = some (k + 1) := by
  intro k
  induction k with
  | zero =>
    intro i hi h0
    have : i = m := by omega
    subst this
    rw [A.top]
    obtain ⟨d', hd, he⟩ := F.up (v p) t 0 hf ((F.zero t).2 rfl)
    rcases Nat.eq_zero_or_pos d' with h | h
    · subst h
      have hpt := (F.zero _).1 he
      have : p = 0 := T.inj p 0 hp (by omega) (by rw [T.v0]; exact hpt)
      rw [this, T.lev0] at hm
      omega
    · have : d' = 0 + 1 := by omega
      rw [← this]; exact he
  | succ k ih =>
    intro i hi h0
    have h1 := ih (i + 1) (by omega) (by omega)
    have hN := A.inN T hp k (i + 1) (by omega)
    have hpos := A.pos T (i := i + 1) (by omega) (by omega)
    have hfr := T.from_ (al (i + 1)) hpos (by omega)
    rw [← A.step i (by omega)] at hfr
    obtain ⟨d', hd, he⟩ := F.up _ _ _ hfr.2.1 h1
    have hpi := A.pos T h0 (by omega)
    have hNi := A.inN T hp (k + 1) i (by omega)
    rcases Nat.eq_zero_or_pos d' with h | h
    · subst h
      have ht := (F.zero _).1 he
      have : al i = 0 := T.inj _ 0 (by omega) (by omega) (by rw [T.v0]; exact ht)
      omega
    · obtain ⟨e, rfl⟩ : ∃ e, d' = e + 1 := ⟨d' - 1, by omega⟩
      have hb := T.bound F e (al i) (by omega) he
      rw [A.lev_ i (by omega)] at hb
      have : e = k + 1 := by omega
      rw [← this]; exact he

/-- Of those of a level that are as far the one on the way is the first. -/
theorem Ch.Way.least (T : Ch.Tree sc t v par lev N p) (F : Ch.Far sc t far) (A : Ch.Way par lev p m al) (hp : p < N) (hm : lev p = m) : ∀ k i, i + k = m → 0 < i → ∀ j, j < N → lev j = i → far (v j) = some (k + 1) → al i ≤ j := by
  intro k
  induction k with
  | zero =>
    intro i hi h0 j hj hl hf
    have : i = m := by omega
    subst this
    rw [A.top]
    rcases Nat.lt_or_ge j p with h | h
    · obtain ⟨u, hu, hz⟩ := F.down _ _ hf
      have ht := (F.zero u).1 hz
      subst ht
      exact absurd rfl (T.closed j h u hu).1
    · exact h
  | succ k ih =>
    intro i hi h0 j hj hl hf
    rcases Nat.lt_or_ge j (al i) with h | h
    · exfalso
      have hN := A.inN T hp (k + 1) i (by omega)
      obtain ⟨u, hu, hz⟩ := F.down _ _ hf
      obtain ⟨_, q, hq0, hqN, rfl⟩ := T.closed j (by omega) u hu
      have h3 : par q ≤ j := by
        rcases Nat.lt_or_ge j (par q) with h' | h'
        · exact absurd hu (T.first q j hq0 hqN h')
        · exact h'
      have hfq := T.from_ q hq0 hqN
      have h4 := T.lev_mono j (par q) h3 hj
      have hb := T.bound F k q hqN hz
      have hlq : lev q = i + 1 := by omega
      have h5 := ih (i + 1) (by omega) (by omega) q hqN hlq hz
      have h6 := T.mono (al (i + 1)) q (A.pos T (by omega) (by omega)) h5 hqN
      rw [← A.step i (by omega)] at h6
      omega
    · exact h

/-- Each next one on the way is the least of those that are as far. -/
theorem Ch.Way.next (T : Ch.Tree sc t v par lev N p) (F : Ch.Far sc t far) (A : Ch.Way par lev p m al) (hp : p < N) (hm : lev p = m) (hf : t ∈ sc (v p)) (i k : Nat) (hik : i + 1 + k = m) :
    v (al (i + 1)) ∈ sc (v (al i)) ∧ far (v (al (i + 1))) = some (k + 1) ∧ ∀ u ∈ sc (v (al i)), far u = some (k + 1) → v (al (i + 1)) ≤ u := by
  have hpos := A.pos T (i := i + 1) (by omega) (by omega)
  have hN := A.inN T hp k (i + 1) hik
  have hNi := A.inN T hp (k + 1) i (by omega)
  have hfr := T.from_ (al (i + 1)) hpos (by omega)
  rw [← A.step i (by omega)] at hfr
  refine ⟨hfr.2.1, A.far_ T F hp hm hf k (i + 1) hik (by omega), fun u hu hz => ?_⟩
  obtain ⟨_, q, hq0, hqN, rfl⟩ := T.closed (al i) (by omega) u hu
  have h3 : par q ≤ al i := by
    rcases Nat.lt_or_ge (al i) (par q) with h' | h'
    · exact absurd hu (T.first q (al i) hq0 hqN h')
    · exact h'
  have hfq := T.from_ q hq0 hqN
  have h4 := T.lev_mono (al i) (par q) h3 (by omega)
  rw [A.lev_ i (by omega)] at h4
  have hb := T.bound F k q hqN hz
  have hlq : lev q = i + 1 := by omega
  have hle := A.least T F hp hm k (i + 1) hik (by omega) q hqN hlq hz
  have hpar : par q = al i := by
    rcases Nat.eq_zero_or_pos i with h0 | h0
    · have hl0 := A.lev_ i (by omega)
      have : al i = 0 := by
        rcases Nat.eq_zero_or_pos (al i) with h | h
        · exact h
        · have := T.from_ (al i) h (by omega); omega
      omega
    · obtain ⟨d', hd, he⟩ := F.up _ _ _ hfq.2.1 hz
      have hlp : lev (par q) = i := by omega
      rcases Nat.eq_zero_or_pos d' with h | h
      · subst h
        have ht := (F.zero _).1 he
        have hz0 : par q = 0 := T.inj _ 0 (by omega) (by omega) (by rw [T.v0]; exact ht)
        rw [hz0, T.lev0] at hlp
        omega
      · obtain ⟨e, rfl⟩ : ∃ e, d' = e + 1 := ⟨d' - 1, by omega⟩
        have hb2 := T.bound F e (par q) (by omega) he
        have he2 : e = k + 1 := by omega
        subst he2
        have := A.least T F hp hm (k + 1) i (by omega) h0 (par q) (by omega) hlp he
        omega
  rcases Nat.eq_or_lt_of_le hle with h | h
  · rw [h]; exact Int.le_refl _
  · exact Int.le_of_lt (T.sib _ _ hpos h hqN (by rw [hpar]; exact (A.step i (by omega)).symm))

/-- No one that the first leads to is nearer. -/
theorem Ch.Tree.size (T : Ch.Tree sc t v par lev N p) (F : Ch.Far sc t far) (hp0 : 0 < p) {u : Int} {d : Nat} (hu : u ∈ sc t) (hd : far u = some d) : lev p ≤ d := by
  obtain ⟨hne, q, hq0, hqN, rfl⟩ := T.closed 0 hp0 u (by rw [T.v0]; exact hu)
  rcases Nat.eq_zero_or_pos d with h | h
  · subst h
    exact absurd ((F.zero _).1 hd) hne
  · obtain ⟨e, rfl⟩ : ∃ e, d = e + 1 := ⟨d - 1, by omega⟩
    have hb := T.bound F e q hqN hd
    have h3 : par q ≤ 0 := by
      rcases Nat.lt_or_ge 0 (par q) with h' | h'
      · exact absurd (by rw [T.v0]; exact hu) (T.first q 0 hq0 hqN h')
      · exact h'
    have hfq := T.from_ q hq0 hqN
    have : par q = 0 := by omega
    rw [this, T.lev0] at hfq
    omega

/-- Where all are gone through and none comes back, none can. -/
theorem Ch.Tree.none_ (T : Ch.Tree sc t v par lev N p) (F : Ch.Far sc t far) (hp : p = N) : ∀ d k, k < N → 0 < k → far (v k) ≠ some d := by
  intro d
  induction d with
  | zero =>
    intro k hk h0 hf
    have ht := (F.zero _).1 hf
    have : k = 0 := T.inj k 0 hk (by omega) (by rw [T.v0]; exact ht)
    omega
  | succ d ih =>
    intro k hk h0 hf
    obtain ⟨u, hu, hz⟩ := F.down _ _ hf
    obtain ⟨_, j, hj0, hjN, rfl⟩ := T.closed k (by omega) u hu
    exact ih j hjN hj0 hz
theorem Ch.Tree.none_at (T : Ch.Tree sc t v par lev N p) (F : Ch.Far sc t far) (hp : p = N) (hN : 0 < N) {u : Int} (hu : u ∈ sc t) (d : Nat) : far u ≠ some d := by
  obtain ⟨_, j, hj0, hjN, rfl⟩ := T.closed 0 (by omega) u (by rw [T.v0]; exact hu)
  exact T.none_ F hp d j hjN hj0
end
end Go.Proofs.Ytmolddlmjojceaa
