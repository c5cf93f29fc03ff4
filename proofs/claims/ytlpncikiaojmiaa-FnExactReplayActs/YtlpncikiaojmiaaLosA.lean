
/- The map of what became of each transaction; fatesOf of the program. -/
import Derived.Test.YtlpncikiaojmiaaLosM
import Derived.Test.YtlpncikiaojmiaaRvA
import Derived.Maps.OwnSet
import Derived.Maps.OwnOps
import Derived.Maps.RangeWalk
namespace Go.Proofs.Ytlpncikiaojmiaa
open Go.RowKit Go.Maps

/-- How a fate reads. -/
def ftElem (v : Value) : Option (DataW Unit × List MemPlace) :=
  match v with
  | .agg a => match a.toList with
    | [.bool b, .bool e, .int .i64 n] => some (.agg [.lit (.bool b), .lit (.bool e), .lit (.int .i64 n)], [])
    | _ => none
  | _ => none
def kF (t : Int) : Lit := .int .i64 t
def ftD (f : Ch.Ft) : DataW Unit := .agg [.lit (.bool f.bg), .lit (.bool f.en), .lit (.int .i64 f.bk)]
def ftV (f : Ch.Ft) : Value := .agg #[.bool f.bg, .bool f.en, .int .i64 f.bk]
theorem ftElem_mk (b e : Bool) (n : Int) : ftElem (.agg #[.bool b, .bool e, .int .i64 n]) = some (ftD ⟨b, e, n⟩, []) := rfl
theorem ftElem_inv {v : Value} {f : Ch.Ft} {ps : List MemPlace} (h : ftElem v = some (ftD f, ps)) : v = .agg #[.bool f.bg, .bool f.en, .int .i64 f.bk] := by
  unfold ftElem at h
  split at h
  · rename_i a
    split at h
    · rename_i b e n he
      simp [ftD] at h
      obtain ⟨⟨rfl, rfl, rfl⟩, _⟩ := h
      have : a = #[.bool f.bg, .bool f.en, .int .i64 f.bk] := by
        cases a
        simpa using he
      rw [this]
    · simp at h
  · simp at h
theorem ftElem_some {v : Value} {y : DataW Unit × List MemPlace} (h : ftElem v = some y) : ∃ f : Ch.Ft, v = .agg #[.bool f.bg, .bool f.en, .int .i64 f.bk] ∧ y = (ftD f, []) := by
  unfold ftElem at h
  split at h
  · rename_i a
    split at h
    · rename_i b e n he
      simp only [Option.some.injEq] at h
      have : a = #[.bool b, .bool e, .int .i64 n] := by
        cases a
        simpa using he
      exact ⟨⟨b, e, n⟩, by rw [this], h.symm⟩
    · simp at h
  · simp at h
theorem ftD_inj {f g : Ch.Ft} (h : ftD f = ftD g) : f = g := by
  obtain ⟨a, b, c⟩ := f
  obtain ⟨x, y, z⟩ := g
  simp [ftD] at h
  obtain ⟨rfl, rfl, rfl⟩ := h
  rfl
theorem Try.keyedF : Keyed Try.prog 2 := int_keyed Try.underlying2
theorem kF_key {t : Int} (h : 1 ≤ t ∧ t ≤ 999) : keyOf Try.prog 2 (.int .i64 t) = some (kF t) := keyOf_int_mk Try.underlying2 (WalkArith.wf_i64 (by omega))
theorem kF_isKey (t : Int) : WideAt.IsKeyLit (kF t) := by unfold kF; simp [WideAt.IsKeyLit]
theorem kF_ne {a b : Int} (h : a ≠ b) : kF a ≠ kF b := by unfold kF; simpa using h
/-- What the map holds. -/
structure Fm (F : Int → Ch.Ft) (D : DataW Unit) : Prop where
  at' : ∀ t, D.atKey (kF t) (ftD Ch.Ft.zero) = ftD (F t)
  has : ∀ t, Maps.has D (kF t) = true → 1 ≤ t ∧ t ≤ 999
theorem Fm.empty : Fm (fun _ => Ch.Ft.zero) (.map []) := ⟨fun t => by simp [DataW.atKey], fun t h => by simp [Maps.has] at h⟩
theorem Fm.put {F : Int → Ch.Ft} {D : DataW Unit} (h : Fm F D) (hD : IsMap D) {t : Int} (ht : 1 ≤ t ∧ t ≤ 999) {f : Ch.Ft} {G : Int → Ch.Ft} (h1 : G t = f) (h2 : ∀ s, s ≠ t → G s = F s) : Fm G (D.put (kF t) (ftD f)) := by
  refine ⟨fun s => ?_, fun s hs => ?_⟩
  · by_cases e : s = t
    · subst e; rw [atKey_put_same hD (kF_isKey _), h1]
    · rw [atKey_put_other (kF_ne e), h.at', h2 s e]
  · by_cases e : s = t
    · subst e; exact ht
    · rw [has_put_other (kF_ne e)] at hs; exact h.has s hs
theorem Fm.none {F : Int → Ch.Ft} {D : DataW Unit} (h : Fm F D) {t : Int} (hn : Maps.has D (kF t) = false) : F t = Ch.Ft.zero := by
  have := h.at' t
  rw [atKey_of_not_has hn] at this
  exact (ftD_inj this).symm

theorem kd_five {kd : Int} (h : 1 ≤ kd ∧ kd ≤ 5) : kd = 1 ∨ kd = 2 ∨ kd = 3 ∨ kd = 4 ∨ kd = 5 := by omega

end Go.Proofs.Ytlpncikiaojmiaa
