
/- Plain: edges in their order, each once. -/
import Derived.Test.YtmolddlmjojceaaLkM
namespace Go.Proofs.Ytmolddlmjojceaa.Ch

def ltE (a b : Hold) : Bool := decide (a.t < b.t) || (decide (a.t = b.t) && decide (a.m < b.m))
theorem ltE_iff {a b : Hold} : ltE a b = true ↔ a.t < b.t ∨ (a.t = b.t ∧ a.m < b.m) := by simp [ltE]
theorem ltE_irrefl (a : Hold) : ltE a a = false := by
  cases h : ltE a a
  · rfl
  · rw [ltE_iff] at h; omega
theorem ltE_trans {a b c : Hold} (h1 : ltE a b = true) (h2 : ltE b c = true) : ltE a c = true := by
  rw [ltE_iff] at *; omega
theorem ltE_total {a b : Hold} (h1 : ltE a b = false) (h2 : a ≠ b) : ltE b a = true := by
  rw [ltE_iff]
  have h : ¬ (a.t < b.t ∨ (a.t = b.t ∧ a.m < b.m)) := fun e => by rw [ltE_iff.2 e] at h1; cases h1
  have : ¬ (a.t = b.t ∧ a.m = b.m) := fun e => h2 (by cases a; cases b; simp at e; simp [e])
  omega
def sameE (a b : Hold) : Bool := decide (a.t = b.t) && decide (a.m = b.m)
theorem sameE_iff {a b : Hold} : sameE a b = true ↔ a = b := by
  cases a; cases b; simp [sameE]
/-- One edge more, in its place, once. -/
def insE : List Hold → Hold → List Hold
  | [], e => [e]
  | x :: l, e => if ltE x e then x :: insE l e else if sameE x e then x :: l else e :: x :: l
def SortE (l : List Hold) : Prop := l.Pairwise fun a b => ltE a b = true
theorem insE_mem {l : List Hold} {e y : Hold} : y ∈ insE l e ↔ y = e ∨ y ∈ l := by
  induction l with
  | nil => simp [insE]
  | cons x l ih =>
    unfold insE
    split
    · simp only [List.mem_cons, ih]
      constructor
      · rintro (h | h | h)
        · exact .inr (.inl h)
        · exact .inl h
        · exact .inr (.inr h)
      · rintro (h | h | h)
        · exact .inr (.inl h)
        · exact .inl h
        · exact .inr (.inr h)
    · split
      · next h => rw [sameE_iff] at h; subst h; simp
      · simp
theorem insE_sort {l : List Hold} (h : SortE l) (e : Hold) : SortE (insE l e) := by
  unfold SortE at *
  induction l with
  | nil => simp [insE]
  | cons x l ih =>
    rw [List.pairwise_cons] at h
    unfold insE
    split
    · next hx =>
      rw [List.pairwise_cons]
      refine ⟨fun y hy => ?_, ih h.2⟩
      rcases insE_mem.1 hy with rfl | hy
      · exact hx
      · exact h.1 y hy
    · next hx =>
      split
      · rw [List.pairwise_cons]; exact h
      · next hne =>
        have hex := ltE_total (by simpa using hx) (fun e' => hne (sameE_iff.2 e'))
        rw [List.pairwise_cons, List.pairwise_cons]
        refine ⟨fun y hy => ?_, h⟩
        rcases List.mem_cons.1 hy with rfl | hy
        · exact hex
        · exact ltE_trans hex (h.1 y hy)
theorem sort_same {a b : List Hold} (ha : SortE a) (hb : SortE b) (h : ∀ x, x ∈ a ↔ x ∈ b) : a = b := by
  unfold SortE at *
  induction a generalizing b with
  | nil =>
    cases b with
    | nil => rfl
    | cons y b => exact absurd ((h y).2 (by simp)) (by simp)
  | cons x a ih =>
    cases b with
    | nil => exact absurd ((h x).1 (by simp)) (by simp)
    | cons y b =>
      rw [List.pairwise_cons] at ha hb
      have hxy : x = y := by
        rcases List.mem_cons.1 ((h x).1 (by simp)) with e | e
        · exact e
        · rcases List.mem_cons.1 ((h y).2 (by simp)) with e2 | e2
          · exact e2.symm
          · have := ltE_trans (hb.1 x e) (ha.1 y e2)
            rw [ltE_irrefl] at this; cases this
      subst hxy
      congr 1
      refine ih ha.2 hb.2 fun z => ?_
      have hz : ∀ {l : List Hold}, (∀ w ∈ l, ltE x w = true) → z ∈ l → z ≠ x := fun hl hm e => by
        have := hl z hm
        rw [e, ltE_irrefl] at this; cases this
      constructor
      · intro hm
        rcases List.mem_cons.1 ((h z).1 (List.mem_cons_of_mem _ hm)) with e | e
        · exact absurd e (hz ha.1 hm)
        · exact e
      · intro hm
        rcases List.mem_cons.1 ((h z).2 (List.mem_cons_of_mem _ hm)) with e | e
        · exact absurd e (hz hb.1 hm)
        · exact e
/-- Where a walk finds its place. -/
theorem insE_at {l : List Hold} {e : Hold} {k : Nat} (hk : k ≤ l.length) (h1 : ∀ j, j < k → ltE (l.getD j Hold.zero) e = true) (h2 : k < l.length → ltE (l.getD k Hold.zero) e = false) :
    insE l e = if (decide (k < l.length) && sameE (l.getD k Hold.zero) e) = true then l else l.take k ++ [e] ++ l.drop k := by
  induction l generalizing k with
  | nil =>
    have : k = 0 := by simpa using hk
    subst this
    simp [insE]
  | cons x l ih =>
    cases k with
    | zero =>
      have hx : ltE x e = false := by simpa using h2 (by simp)
      unfold insE
      rw [hx]
      cases he : sameE x e
      · simp [he]
      · simp [he]
    | succ k =>
      have hx : ltE x e = true := by simpa using h1 0 (by omega)
      unfold insE
      rw [hx, if_pos rfl, ih (k := k) (by simpa using hk) (fun j hj => by simpa using h1 (j + 1) (by omega)) (fun hl => by simpa using h2 (by simpa using hl))]
      have e2 : (decide (k + 1 < (x :: l).length) && sameE ((x :: l).getD (k + 1) Hold.zero) e) = (decide (k < l.length) && sameE (l.getD k Hold.zero) e) := by simp
      rw [e2]
      split
      · rfl
      · simp
def sortE (l : List Hold) : List Hold := l.foldl insE []
theorem sortE_snoc (l : List Hold) (e : Hold) : sortE (l ++ [e]) = insE (sortE l) e := by simp [sortE]
theorem sortE_sort (l : List Hold) : SortE (sortE l) := by
  unfold sortE
  suffices H : ∀ (l acc : List Hold), SortE acc → SortE (l.foldl insE acc) from H l [] (by simp [SortE])
  intro l
  induction l with
  | nil => intro acc h; exact h
  | cons x l ih => intro acc h; exact ih _ (insE_sort h x)
theorem sortE_mem {l : List Hold} {y : Hold} : y ∈ sortE l ↔ y ∈ l := by
  unfold sortE
  suffices H : ∀ (l acc : List Hold), y ∈ l.foldl insE acc ↔ y ∈ acc ∨ y ∈ l by simpa using H l []
  intro l
  induction l with
  | nil => intro acc; simp
  | cons x l ih =>
    intro acc
    simp only [List.foldl_cons, List.mem_cons]
    rw [ih, insE_mem]
    constructor
    · rintro ((h | h) | h)
      · exact .inr (.inl h)
      · exact .inl h
      · exact .inr (.inr h)
    · rintro (h | h | h)
      · exact .inl (.inr h)
      · exact .inl (.inl h)
      · exact .inr h
/-- For whom one waits: those that hold in its way, those that stand ahead. -/
def waitE (q : Hold) (hs : List Hold) : List Hold := (hs.filter fun h => h.t != q.t && !fits h.m q.m).map fun h => ⟨q.t, h.t⟩
def aheadE (q : Hold) (qs : List Hold) : List Hold := qs.map fun x => ⟨q.t, x.t⟩
def queueE (l : Lock) (k : Nat) : List Hold := (List.range k).flatMap fun i => waitE (l.qs.getD i Hold.zero) l.hs ++ aheadE (l.qs.getD i Hold.zero) (l.qs.take i)
def allE (ls : List Lock) : List Hold := ls.flatMap fun l => queueE l l.qs.length
def edgesR (ls : List Lock) : Int × List Hold := if locksFault ls != 0 then (locksFault ls, []) else (0, sortE (allE ls))
theorem allE_next {ls : List Lock} {k : Nat} (h : k < ls.length) : allE (ls.take (k + 1)) = allE (ls.take k) ++ queueE (lkAt ls k) (lkAt ls k).qs.length := by
  unfold allE lkAt
  rw [take_snoc ls Lock.zero k h]; simp
theorem queueE_next (l : Lock) (k : Nat) : queueE l (k + 1) = queueE l k ++ (waitE (l.qs.getD k Hold.zero) l.hs ++ aheadE (l.qs.getD k Hold.zero) (l.qs.take k)) := by
  unfold queueE
  rw [List.range_succ, List.flatMap_append]; simp
theorem waitE_yes {q : Hold} {hs : List Hold} {k : Nat} (h : k < hs.length) (hc : ((hs.getD k Hold.zero).t != q.t && !fits (hs.getD k Hold.zero).m q.m) = true) : waitE q (hs.take (k + 1)) = waitE q (hs.take k) ++ [⟨q.t, (hs.getD k Hold.zero).t⟩] := by
  unfold waitE
  rw [take_snoc hs Hold.zero k h, List.filter_append, List.map_append]
  generalize hs.getD k Hold.zero = x at *
  rw [List.filter_cons_of_pos (p := fun h : Hold => h.t != q.t && !fits h.m q.m) hc]; rfl
theorem waitE_no {q : Hold} {hs : List Hold} {k : Nat} (h : k < hs.length) (hc : ((hs.getD k Hold.zero).t != q.t && !fits (hs.getD k Hold.zero).m q.m) = false) : waitE q (hs.take (k + 1)) = waitE q (hs.take k) := by
  unfold waitE
  rw [take_snoc hs Hold.zero k h, List.filter_append, List.map_append]
  generalize hs.getD k Hold.zero = x at *
  rw [List.filter_cons_of_neg (p := fun h : Hold => h.t != q.t && !fits h.m q.m) (by simp only [hc]; simp)]; simp
theorem aheadE_next {q : Hold} {qs : List Hold} {k : Nat} (h : k < qs.length) : aheadE q (qs.take (k + 1)) = aheadE q (qs.take k) ++ [⟨q.t, (qs.getD k Hold.zero).t⟩] := by
  unfold aheadE
  rw [take_snoc qs Hold.zero k h]; simp
end Go.Proofs.Ytmolddlmjojceaa.Ch
