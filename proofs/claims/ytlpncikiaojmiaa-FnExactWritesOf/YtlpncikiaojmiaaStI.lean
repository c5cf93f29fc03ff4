/- What must not come behind an act: the program's closures. -/
import Derived.Test.YtlpncikiaojmiaaStW
namespace Go.Proofs.Ytlpncikiaojmiaa
open Go.RowKit

/-- The box of an act, its Answer not asked. -/
def AcBox (w : World) (B : Nat) (t : Ch.Ac) : Prop :=
  w.cell? ⟨B, 0, none⟩ = some (.int .i64 t.tx) ∧ w.cell? ⟨B, 1, none⟩ = some (.int .i64 t.k) ∧ w.cell? ⟨B, 2, none⟩ = some (.int .i64 t.a)
theorem AcBox.below {w w' : World} {B : Nat} {t : Ch.Ac} (h : AcBox w B t) (hb : Below w.heap.size w w') : AcBox w' B t := ⟨keep_cell hb h.1, keep_cell hb h.2.1, keep_cell hb h.2.2⟩

set_option maxHeartbeats 800000 in
theorem forb1_any (f : Ch.Ac) (B : Nat) (tx k a b v : Int) (an : Value) (w : World) (h : AcBox w B f) (zs : List Int) (hw : Ch.isW f.k = true) :
    Calls Try.prog 75 #[.agg #[.int .i64 tx, .int .i64 k, .int .i64 a, .int .i64 b, .int .i64 v, an], .pointer (some ⟨B, 0, none⟩)] w fun e w' => e = .returned (.bool (Ch.forbid f ⟨tx, k, a, b, v, zs⟩)) ∧ Below w.heap.size w w' := by
  rw [Ch.forbid_w hw]
  obtain ⟨c0, c1, c2⟩ := h
  obtain ⟨ftx, fk, fa, fb, fv, fan⟩ := f
  simp only at c0 c1 c2 hw ⊢
  have ht := fun W => implTouches_any k a b v fa W
  generalize Ch.touches k a b v fa = T at *
  have hbl := lt_of_cell c0
  have hbl2 := lt_of_cell c2
  clear hw c1
  by_cases h0 : (tx != ftx) = true
  · go_enter Try.func75, Try.ntmps75
    go_wp2_with (go_at_call 27; refine (ht _).mono ?_; rintro e w1 ⟨rfl, b1⟩)
    go_ret
    exact ⟨by simp [h0], below_box b1⟩
  · have h0' : (tx != ftx) = false := by simpa using h0
    clear h0
    go_enter Try.func75, Try.ntmps75
    go_wp2
    go_ret
    exact ⟨by simp [h0'], (Below.refl _ _).alloc (Nat.le_refl _) _⟩

set_option maxHeartbeats 800000 in
theorem forb2_any (f : Ch.Ac) (B : Nat) (tx k a b v : Int) (an : Value) (w : World) (h : AcBox w B f) (zs : List Int) (hw : Ch.isW f.k = false) (he : Ch.isE f.k = true) :
    Calls Try.prog 76 #[.agg #[.int .i64 tx, .int .i64 k, .int .i64 a, .int .i64 b, .int .i64 v, an], .pointer (some ⟨B, 0, none⟩)] w fun e w' => e = .returned (.bool (Ch.forbid f ⟨tx, k, a, b, v, zs⟩)) ∧ Below w.heap.size w w' := by
  rw [Ch.forbid_e hw he]
  obtain ⟨c0, c1, c2⟩ := h
  obtain ⟨ftx, fk, fa, fb, fv, fan⟩ := f
  simp only at c0 c1 c2 hw he ⊢
  have hbl := lt_of_cell c0
  clear hw he c1 c2
  go_enter Try.func76, Try.ntmps76
  go_wp2
  go_ret
  exact ⟨rfl, (Below.refl _ _).alloc (Nat.le_refl _) _⟩

theorem forb3_any (f : Ch.Ac) (tx k a b v : Int) (an : Value) (w : World) (zs : List Int) (hw : Ch.isW f.k = false) (he : Ch.isE f.k = false) :
    Calls Try.prog 77 #[.agg #[.int .i64 tx, .int .i64 k, .int .i64 a, .int .i64 b, .int .i64 v, an]] w fun e w' => e = .returned (.bool (Ch.forbid f ⟨tx, k, a, b, v, zs⟩)) ∧ Below w.heap.size w w' := by
  rw [Ch.forbid_n hw he]
  go_enter Try.func77, Try.ntmps77
  go_wp2
  go_ret
  exact ⟨rfl, (Below.refl _ _).alloc (Nat.le_refl _) _⟩

/-- The function value that tells what must not come behind an act. -/
def ForbF (w : World) (f : Ch.Ac) (fv : Value) : Prop :=
  (∃ B, fv = .func (.func 75) #[] #[.pointer (some ⟨B, 0, none⟩)] ∧ AcBox w B f ∧ Ch.isW f.k = true) ∨
  (∃ B, fv = .func (.func 76) #[] #[.pointer (some ⟨B, 0, none⟩)] ∧ AcBox w B f ∧ Ch.isW f.k = false ∧ Ch.isE f.k = true) ∨
  (fv = .func (.func 77) #[] #[] ∧ Ch.isW f.k = false ∧ Ch.isE f.k = false)

set_option maxHeartbeats 800000 in
theorem forbidden_any (tx k a b v : Int) (an : Value) (zs : List Int) (w : World) :
    Calls Try.prog 51 #[.agg #[.int .i64 tx, .int .i64 k, .int .i64 a, .int .i64 b, .int .i64 v, an]] w fun e w' => ∃ fv, e = .returned fv ∧ ForbF w' ⟨tx, k, a, b, v, zs⟩ fv ∧ Below w.heap.size w w' := by
  have hmf : ∀ (fn : Fn) (first cap : Array Value) (w : World), (Instr.makeFunc fn first cap).run Try.prog w = .ok (.func fn first cap) w := fun _ _ _ _ => rfl
  have hb : Below w.heap.size w (w.alloc (.cells #[.int .i64 tx, .int .i64 k, .int .i64 a, .int .i64 b, .int .i64 v, an] 68)) := (Below.refl _ _).alloc (Nat.le_refl _) _
  have hx : AcBox (w.alloc (.cells #[.int .i64 tx, .int .i64 k, .int .i64 a, .int .i64 b, .int .i64 v, an] 68)) w.heap.size ⟨tx, k, a, b, v, zs⟩ := by
    refine ⟨?_, ?_, ?_⟩ <;> simp [go_sem]
  cases hw : Ch.isW k with
  | true =>
    go_enter Try.func51, Try.ntmps51
    go_wp2_with (go_at_call 61; refine (isWrite_any _ _).mono ?_; rintro e w1 ⟨rfl, rfl⟩; rw [hw])
    go_ret
    exact ⟨_, rfl, .inl ⟨_, rfl, hx, hw⟩, hb⟩
  | false =>
    cases he : Ch.isE k with
    | true =>
      go_enter Try.func51, Try.ntmps51
      go_wp2_with (first | (go_at_call 61; refine (isWrite_any _ _).mono ?_; rintro e w1 ⟨rfl, rfl⟩; rw [hw]) | (go_at_call 52; refine (isEnd_any _ _).mono ?_; rintro e w1 ⟨rfl, rfl⟩; rw [he]))
      go_ret
      exact ⟨_, rfl, .inr (.inl ⟨_, rfl, hx, hw, he⟩), hb⟩
    | false =>
      go_enter Try.func51, Try.ntmps51
      go_wp2_with (first | (go_at_call 61; refine (isWrite_any _ _).mono ?_; rintro e w1 ⟨rfl, rfl⟩; rw [hw]) | (go_at_call 52; refine (isEnd_any _ _).mono ?_; rintro e w1 ⟨rfl, rfl⟩; rw [he]))
      go_ret
      exact ⟨_, rfl, .inr (.inr ⟨rfl, hw, he⟩), hb⟩
end Go.Proofs.Ytlpncikiaojmiaa
