
/- Plain: going through those that are reached, breadth first. No Go in it. -/
import Derived.Test.YtmolddlmjojceaaCycM
namespace Go.Proofs.Ytmolddlmjojceaa

/-- Those that are reached: who, from the how manieth, how far off. -/
structure Ch.Rch where
  vs : List Int
  ps : List Nat
  ls : List Nat
def Ch.Rch.v (s : Ch.Rch) (i : Nat) : Int := s.vs.getD i 0
def Ch.Rch.par (s : Ch.Rch) (i : Nat) : Nat := s.ps.getD i 0
def Ch.Rch.lev (s : Ch.Rch) (i : Nat) : Nat := s.ls.getD i 0
def Ch.Rch.add (s : Ch.Rch) (u : Int) (p : Nat) : Ch.Rch := ⟨s.vs ++ [u], s.ps ++ [p], s.ls ++ [s.lev p + 1]⟩
/-- Those that one leads to, taken up; none: one of them is where it began. -/
def Ch.takeUp (t : Int) (p : Nat) : List Int → Ch.Rch → Option Ch.Rch
  | [], s => some s
  | u :: us, s => if u = t then none else if u ∈ s.vs then Ch.takeUp t p us s else Ch.takeUp t p us (s.add u p)
def Ch.Rch.one (t : Int) : Ch.Rch := ⟨[t], [0], [0]⟩

/-- What holds on the way: all ahead of p are gone through, of p's own those in done. -/
structure Ch.Mid (sc : Int → List Int) (t : Int) (s : Ch.Rch) (p : Nat) (done us : List Int) : Prop where
  lp : s.ps.length = s.vs.length
  ll : s.ls.length = s.vs.length
  pN : p < s.vs.length
  tree : Ch.Tree sc t s.v s.par s.lev s.vs.length p
  all : sc (s.v p) = done ++ us
  low : ∀ i, 0 < i → i < s.vs.length → s.par i ≤ p
  less : ∀ i, 0 < i → i < s.vs.length → s.par i = p → ∀ u ∈ us, s.v i < u
  got : ∀ u ∈ done, u ≠ t ∧ ∃ j, 0 < j ∧ j < s.vs.length ∧ s.v j = u

theorem Ch.Rch.v_old {s : Ch.Rch} {u : Int} {p i : Nat} (h : i < s.vs.length) : (s.add u p).v i = s.v i := by
  unfold Ch.Rch.v Ch.Rch.add
  simp [List.getD, List.getElem?_append_left h]
theorem Ch.Rch.par_old {s : Ch.Rch} {u : Int} {p i : Nat} (hl : s.ps.length = s.vs.length) (h : i < s.vs.length) : (s.add u p).par i = s.par i := by
  unfold Ch.Rch.par Ch.Rch.add
  simp [List.getD, List.getElem?_append_left (show i < s.ps.length by omega)]
theorem Ch.Rch.lev_old {s : Ch.Rch} {u : Int} {p i : Nat} (hl : s.ls.length = s.vs.length) (h : i < s.vs.length) : (s.add u p).lev i = s.lev i := by
  unfold Ch.Rch.lev Ch.Rch.add
  simp [List.getD, List.getElem?_append_left (show i < s.ls.length by omega)]
theorem Ch.Rch.v_new {s : Ch.Rch} {u : Int} {p : Nat} : (s.add u p).v s.vs.length = u := by
  unfold Ch.Rch.v Ch.Rch.add; simp [List.getD]
theorem Ch.Rch.par_new {s : Ch.Rch} {u : Int} {p : Nat} (hl : s.ps.length = s.vs.length) : (s.add u p).par s.vs.length = p := by
  unfold Ch.Rch.par Ch.Rch.add; simp [List.getD, ← hl]
theorem Ch.Rch.lev_new {s : Ch.Rch} {u : Int} {p : Nat} (hl : s.ls.length = s.vs.length) : (s.add u p).lev s.vs.length = s.lev p + 1 := by
  unfold Ch.Rch.add
  show (s.ls ++ [s.lev p + 1]).getD s.vs.length 0 = _
  simp [List.getD, ← hl]
theorem Ch.Rch.len_add {s : Ch.Rch} {u : Int} {p : Nat} : (s.add u p).vs.length = s.vs.length + 1 := by unfold Ch.Rch.add; simp
theorem Ch.Rch.mem {s : Ch.Rch} {u : Int} : u ∈ s.vs ↔ ∃ j, j < s.vs.length ∧ s.v j = u := by
  constructor
  · intro h
    obtain ⟨j, hj, e⟩ := List.getElem_of_mem h
    exact ⟨j, hj, by unfold Ch.Rch.v; simp [List.getD, hj, e]⟩
  · rintro ⟨j, hj, rfl⟩
    unfold Ch.Rch.v
    simp [List.getD, hj]

/-- One more is taken up. -/
theorem Ch.Mid.add {sc : Int → List Int} {t : Int} {s : Ch.Rch} {p : Nat} {done us : List Int} {u : Int} (M : Ch.Mid sc t s p done (u :: us)) (hs : (u :: us).Pairwise (· < ·)) (hut : u ≠ t) (hu : u ∉ s.vs) : Ch.Mid sc t (s.add u p) p (done ++ [u]) us := by
  have N1 := Ch.Rch.len_add (s := s) (u := u) (p := p)
  have cs : ∀ i, i < (s.add u p).vs.length → i < s.vs.length ∨ i = s.vs.length := fun i hi => by omega
  have hsc : u ∈ sc (s.v p) := by rw [M.all]; simp
  have hno : ∀ k, k < p → u ∉ sc (s.v k) := fun k hk hm => by
    obtain ⟨_, j, _, hj, e⟩ := M.tree.closed k hk u hm
    exact hu (Ch.Rch.mem.2 ⟨j, hj, e⟩)
  have hp0 := M.pN
  have vp : (s.add u p).v p = s.v p := Ch.Rch.v_old hp0
  refine ⟨by unfold Ch.Rch.add; simp [M.lp], by unfold Ch.Rch.add; simp [M.ll], by omega, ?_, ?_, ?_, ?_, ?_⟩
  · refine ⟨by rw [Ch.Rch.v_old (by omega)]; exact M.tree.v0, by rw [Ch.Rch.lev_old M.ll (by omega)]; exact M.tree.lev0, ?_, ?_, ?_, ?_, ?_, ?_⟩
    · intro i j hi hj e
      rcases cs i hi with h1 | h1 <;> rcases cs j hj with h2 | h2
      · rw [Ch.Rch.v_old h1, Ch.Rch.v_old h2] at e
        exact M.tree.inj i j h1 h2 e
      · subst h2
        rw [Ch.Rch.v_old h1, Ch.Rch.v_new] at e
        exact absurd (Ch.Rch.mem.2 ⟨i, h1, e⟩) hu
      · subst h1
        rw [Ch.Rch.v_old h2, Ch.Rch.v_new] at e
        exact absurd (Ch.Rch.mem.2 ⟨j, h2, e.symm⟩) hu
      · omega
    · intro i h0 hi
      rcases cs i hi with h1 | h1
      · have h := M.tree.from_ i h0 h1
        rw [Ch.Rch.par_old M.lp h1, Ch.Rch.v_old h1, Ch.Rch.v_old (by omega), Ch.Rch.lev_old M.ll h1, Ch.Rch.lev_old M.ll (by omega)]
        exact h
      · subst h1
        rw [Ch.Rch.par_new M.lp, Ch.Rch.v_new, vp, Ch.Rch.lev_new M.ll, Ch.Rch.lev_old M.ll hp0]
        exact ⟨hp0, hsc, rfl⟩
    · intro i j h0 hij hj
      rcases cs j hj with h2 | h2
      · rw [Ch.Rch.par_old M.lp (by omega), Ch.Rch.par_old M.lp h2]
        exact M.tree.mono i j h0 hij h2
      · subst h2
        rw [Ch.Rch.par_new M.lp]
        rcases cs i (by omega) with h1 | h1
        · rw [Ch.Rch.par_old M.lp h1]; exact M.low i h0 h1
        · subst h1; rw [Ch.Rch.par_new M.lp]; exact Nat.le_refl _
    · intro i j h0 hij hj e
      rcases cs j hj with h2 | h2
      · rw [Ch.Rch.par_old M.lp (by omega), Ch.Rch.par_old M.lp h2] at e
        rw [Ch.Rch.v_old (by omega), Ch.Rch.v_old h2]
        exact M.tree.sib i j h0 hij h2 e
      · subst h2
        rw [Ch.Rch.par_old M.lp (by omega), Ch.Rch.par_new M.lp] at e
        rw [Ch.Rch.v_old (by omega), Ch.Rch.v_new]
        exact M.less i h0 (by omega) e u (List.mem_cons_self ..)
    · intro i k h0 hi hk
      rcases cs i hi with h1 | h1
      · rw [Ch.Rch.par_old M.lp h1] at hk
        have := (M.tree.from_ i h0 h1).1
        rw [Ch.Rch.v_old h1, Ch.Rch.v_old (by omega)]
        exact M.tree.first i k h0 h1 hk
      · subst h1
        rw [Ch.Rch.par_new M.lp] at hk
        rw [Ch.Rch.v_new, Ch.Rch.v_old (by omega)]
        exact hno k hk
    · intro k hk x hx
      rw [Ch.Rch.v_old (by omega)] at hx
      obtain ⟨h1, j, h2, h3, h4⟩ := M.tree.closed k hk x hx
      exact ⟨h1, j, h2, by omega, by rw [Ch.Rch.v_old h3]; exact h4⟩
  · rw [vp, M.all]; simp
  · intro i h0 hi
    rcases cs i hi with h1 | h1
    · rw [Ch.Rch.par_old M.lp h1]; exact M.low i h0 h1
    · subst h1; rw [Ch.Rch.par_new M.lp]; exact Nat.le_refl _
  · intro i h0 hi e x hx
    rcases cs i hi with h1 | h1
    · rw [Ch.Rch.par_old M.lp h1] at e
      rw [Ch.Rch.v_old h1]
      exact M.less i h0 h1 e x (List.mem_cons_of_mem _ hx)
    · subst h1
      rw [Ch.Rch.v_new]
      exact (List.pairwise_cons.1 hs).1 x hx
  · intro x hx
    rcases List.mem_append.1 hx with h | h
    · obtain ⟨h1, j, h2, h3, h4⟩ := M.got x h
      exact ⟨h1, j, h2, by omega, by rw [Ch.Rch.v_old h3]; exact h4⟩
    · rw [List.mem_singleton.1 h]
      exact ⟨hut, s.vs.length, by omega, by omega, Ch.Rch.v_new⟩

/-- One that is there already is passed by. -/
theorem Ch.Mid.skip {sc : Int → List Int} {t : Int} {s : Ch.Rch} {p : Nat} {done us : List Int} {u : Int} (M : Ch.Mid sc t s p done (u :: us)) (hut : u ≠ t) (hu : u ∈ s.vs) : Ch.Mid sc t s p (done ++ [u]) us := by
  refine ⟨M.lp, M.ll, M.pN, M.tree, by rw [M.all]; simp, M.low, fun i h0 hi e x hx => M.less i h0 hi e x (List.mem_cons_of_mem _ hx), fun x hx => ?_⟩
  rcases List.mem_append.1 hx with h | h
  · exact M.got x h
  · rw [List.mem_singleton.1 h]
    obtain ⟨j, hj, e⟩ := Ch.Rch.mem.1 hu
    refine ⟨hut, j, ?_, hj, e⟩
    rcases Nat.eq_zero_or_pos j with h0 | h0
    · subst h0; rw [M.tree.v0] at e; exact absurd e.symm hut
    · exact h0

/-- Where all of p's own are gone through, the next one's turn has come. -/
theorem Ch.Mid.done_ {sc : Int → List Int} {t : Int} {s : Ch.Rch} {p : Nat} {done : List Int} (M : Ch.Mid sc t s p done []) : Ch.Tree sc t s.v s.par s.lev s.vs.length (p + 1) := by
  have T := M.tree
  refine ⟨T.v0, T.lev0, T.inj, T.from_, T.mono, T.sib, T.first, fun k hk x hx => ?_⟩
  by_cases h : k = p
  · subst h
    rw [M.all, List.append_nil] at hx
    exact M.got x hx
  · exact T.closed k (by omega) x hx
theorem Ch.Mid.start {sc : Int → List Int} {t : Int} {s : Ch.Rch} {p : Nat} (lp : s.ps.length = s.vs.length) (ll : s.ls.length = s.vs.length) (pN : p < s.vs.length) (T : Ch.Tree sc t s.v s.par s.lev s.vs.length p) (low : ∀ i, 0 < i → i < s.vs.length → s.par i < p) : Ch.Mid sc t s p [] (sc (s.v p)) :=
  ⟨lp, ll, pN, T, rfl, fun i h0 hi => Nat.le_of_lt (low i h0 hi), fun i h0 hi e => by have := low i h0 hi; omega, fun u hu => by cases hu⟩
theorem Ch.tree_one (sc : Int → List Int) (t : Int) : Ch.Mid sc t (Ch.Rch.one t) 0 [] (sc t) := by
  refine ⟨rfl, rfl, by simp [Ch.Rch.one], ?_, rfl, ?_, ?_, fun u hu => by cases hu⟩
  · refine ⟨rfl, rfl, ?_, ?_, ?_, ?_, ?_, ?_⟩
    all_goals simp only [Ch.Rch.one, List.length_cons, List.length_nil]
    · intro i j hi hj _; omega
    · intro i h0 hi; omega
    · intro i j h0 hij hj; omega
    · intro i j h0 hij hj; omega
    · intro i k h0 hi; omega
    · intro k hk; omega
  · simp only [Ch.Rch.one, List.length_cons, List.length_nil]; intro i h0 hi; omega
  · simp only [Ch.Rch.one, List.length_cons, List.length_nil]; intro i h0 hi; omega
end Go.Proofs.Ytmolddlmjojceaa
