
/- A list of functions in which each calls only such as stand behind it: then nothing recurses. -/
import Derived.Test.YtjagobcogkdfhaaProg
import Derived.JoinedOf
import Derived.Lib.SmallJoins
namespace Go.Proofs.Ytjagobcogkdfhaa

/-- What a function leads to. -/
def leads (P : Program) (g : FuncId) : List FuncId := (P.funcs[g]?).elim [] P.leadsTo

/-- Each function leads only to such as stand behind it. -/
def topo (P : Program) : List FuncId → Bool
  | [] => true
  | g :: S => (leads P g).all (S.contains ·) && !S.contains g && topo P S

theorem topo_cons {P : Program} {g : FuncId} {S : List FuncId} (h : topo P (g :: S) = true) : (∀ x ∈ leads P g, x ∈ S) ∧ g ∉ S ∧ topo P S = true := by
  simp only [topo, Bool.and_eq_true, List.all_eq_true, Bool.not_eq_true', List.contains_iff_mem] at h
  obtain ⟨⟨h1, h2⟩, h3⟩ := h
  exact ⟨h1, (fun hm => by rw [List.contains_iff_mem.2 hm] at h2; cases h2), h3⟩

theorem topo_closed {P : Program} {S : List FuncId} (h : topo P S = true) : ∀ g ∈ S, ∀ x ∈ leads P g, x ∈ S := by
  induction S with
  | nil => intro g hg; cases hg
  | cons a S ih =>
    obtain ⟨h1, _, h3⟩ := topo_cons h
    intro g hg x hx
    rcases List.mem_cons.1 hg with rfl | hg
    · exact List.mem_cons_of_mem _ (h1 x hx)
    · exact List.mem_cons_of_mem _ (ih h3 g hg x hx)

theorem closureVia_in {P : Program} {S : List FuncId} (hS : ∀ g ∈ S, ∀ x ∈ leads P g, x ∈ S) (n : Nat) (todo seen : List FuncId) (ht : ∀ x ∈ todo, x ∈ S) (hs : ∀ x ∈ seen, x ∈ S) : ∀ x ∈ P.closureVia n todo seen, x ∈ S := by
  induction n generalizing todo seen with
  | zero =>
    intro x hx
    rw [Program.closureVia] at hx
    exact hs x (List.mem_reverse.1 hx)
  | succ n ih =>
    cases todo with
    | nil =>
      intro x hx
      rw [Program.closureVia] at hx
      · exact hs x (List.mem_reverse.1 hx)
      · intro h; cases h
    | cons f todo =>
      rw [Program.closureVia]
      split
      · exact ih todo seen (fun x hx => ht x (List.mem_cons_of_mem _ hx)) hs
      · refine ih _ _ (fun x hx => ?_) (fun x hx => ?_)
        · rcases List.mem_append.1 hx with hx | hx
          · exact hS f (ht f (List.mem_cons_self ..)) x hx
          · exact ht x (List.mem_cons_of_mem _ hx)
        · rcases List.mem_cons.1 hx with rfl | hx
          · exact ht _ (List.mem_cons_self ..)
          · exact hs x hx

theorem closure_in {P : Program} {S : List FuncId} (hS : topo P S = true) {f : FuncId} (hf : f ∈ S) : ∀ x ∈ P.closure f, x ∈ S := by
  unfold Program.closure
  exact closureVia_in (topo_closed hS) _ _ _ (fun x hx => by rw [List.mem_singleton.1 hx]; exact hf) (fun x hx => by cases hx)

theorem topo_no {P : Program} {S : List FuncId} (hS : topo P S = true) : ∀ g ∈ S, ∀ h ∈ leads P g, g ∉ P.closure h := by
  induction S with
  | nil => intro g hg; cases hg
  | cons a S ih =>
    obtain ⟨h1, h2, h3⟩ := topo_cons hS
    intro g hg h hh
    rcases List.mem_cons.1 hg with rfl | hg
    · intro hc
      exact h2 (closure_in h3 (h1 h hh) g hc)
    · exact ih h3 g hg h hh

theorem recurses_no {P : Program} {f : FuncId} (S : List FuncId) (hS : topo P S = true) (hf : S.contains f = true) (hu : P.unfollowed f = false) : P.recurses f = false := by
  unfold Program.recurses
  rw [hu, Bool.false_or]
  rw [Bool.eq_false_iff]
  intro h
  obtain ⟨g, hg, h⟩ := List.any_eq_true.1 h
  obtain ⟨x, hx, h⟩ := List.any_eq_true.1 h
  exact topo_no hS g (closure_in hS (List.contains_iff_mem.1 hf) g hg) x hx (List.contains_iff_mem.1 h)
end Go.Proofs.Ytjagobcogkdfhaa
