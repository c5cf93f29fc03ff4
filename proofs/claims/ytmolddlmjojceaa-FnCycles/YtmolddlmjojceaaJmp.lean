
/- A scope in which the run jumps to several labels: what holds at each, with what is left to go. -/
import Derived.Test.YtmolddlmjojceaaProg
import Derived.Test.YtmolddlmjojceaaBase
import Derived.ScopeJumps
import Derived.WalkMore
namespace Go.Proofs.Ytmolddlmjojceaa
open Go Go.RowKit

/-- As Q; by a goto to a label: what J says of it. -/
def jumpK (J : Nat → Act → World → Prop) (Q : Exit → Act → World → Prop) : Exit → Act → World → Prop
  | .goto l, a, w => J l a w
  | e, a, w => Q e a w

theorem wp_scope_labels {P : Program} {a : Act} {w : World} {Q : Exit → Act → World → Prop} {c : Code} (K : Nat → Nat → Act → World → Prop)
    (first : c.wp P (jumpK (fun l a' w' => ∃ m, K l m a' w') Q) a w)
    (pass : ∀ l n a w, K l n a w → ∃ rest, findLabel c l = some rest ∧ rest.wp P (jumpK (fun l' a' w' => ∃ m, m < n ∧ K l' m a' w') Q) a w) : (Code.scope c).wp P Q a w := by
  intro b k cs
  have key : ∀ n l a w, K l n a w → ∃ rest, findLabel c l = some rest ∧ ∃ e a' w', Q e a' w' ∧ Arrives P (lone (b.at a (.code rest :: .inScope c :: k)) cs w) b k cs e a' w' := by
    intro n
    induction n using Nat.strongRecOn with
    | _ n ih =>
      intro l a w hK
      obtain ⟨rest, hf, hp⟩ := pass l n a w hK
      refine ⟨rest, hf, ?_⟩
      obtain ⟨e, a₁, w₁, hq, harr⟩ := hp b (.inScope c :: k) cs
      cases e with
      | normal => exact ⟨.normal, a₁, w₁, hq, Steps.trans harr (.one step_inScope)⟩
      | exit id => exact ⟨.exit id, a₁, w₁, hq, fun k' hk => harr k' (by simp [exitTo, hk])⟩
      | goto l' =>
        obtain ⟨m, hlt, hJ'⟩ := hq
        obtain ⟨rest', hf', e₂, a₂, w₂, hq₂, harr₂⟩ := ih m hlt l' a₁ w₁ hJ'
        have hg : gotoIn l' (.inScope c :: k) = some (.code rest' :: .inScope c :: k) := by simp [gotoIn, hf']
        exact ⟨e₂, a₂, w₂, hq₂, .of_steps (harr _ hg) harr₂⟩
      | ret => exact ⟨_, a₁, w₁, hq, harr⟩
      | panic ch => exact ⟨_, a₁, w₁, hq, harr⟩
      | outgrown => exact ⟨_, a₁, w₁, hq, harr⟩
  obtain ⟨e, a₁, w₁, hq, harr⟩ := first b (.inScope c :: k) cs
  cases e with
  | normal => exact ⟨.normal, a₁, w₁, hq, .head step_scope (Steps.trans harr (.one step_inScope))⟩
  | exit id => exact ⟨.exit id, a₁, w₁, hq, fun k' hk => .head step_scope (harr k' (by simp [exitTo, hk]))⟩
  | goto l' =>
    obtain ⟨m, hJ'⟩ := hq
    obtain ⟨rest', hf', e₂, a₂, w₂, hq₂, harr₂⟩ := key m l' a₁ w₁ hJ'
    have hg : gotoIn l' (.inScope c :: k) = some (.code rest' :: .inScope c :: k) := by simp [gotoIn, hf']
    exact ⟨e₂, a₂, w₂, hq₂, .of_steps (.head step_scope (harr _ hg)) harr₂⟩
  | ret => exact ⟨_, a₁, w₁, hq, .of_steps (.one step_scope) harr⟩
  | panic ch => exact ⟨_, a₁, w₁, hq, .of_steps (.one step_scope) harr⟩
  | outgrown => exact ⟨_, a₁, w₁, hq, .of_steps (.one step_scope) harr⟩

theorem wp_scope_labels2 {P : Program} {a : Act} {w : World} {Q : Exit → Act → World → Prop} {c : Code} (K : Nat → Nat → Act → World → Prop)
    (pass : ∀ l n a w, K l n a w → ∃ rest, findLabel c l = some (.seq .skip rest) ∧ rest.wp P (jumpK (fun l' a' w' => ∃ m, m < n ∧ K l' m a' w') Q) a w)
    (first : Hid (∀ l n a w, K l n a w → ∀ rest, findLabel c l = some (.seq .skip rest) → rest.wp P (jumpK (fun l' a' w' => ∃ m, K l' m a' w') Q) a w) → c.wp P (jumpK (fun l a' w' => ∃ m, K l m a' w') Q) a w) : (Code.scope c).wp P Q a w := by
  refine wp_scope_labels K (first (fun l n a w hK rest hf => ?_)) (fun l n a w hK => ?_)
  · obtain ⟨r, hf', hp⟩ := pass l n a w hK
    rw [hf'] at hf
    cases hf
    refine Code.wp_mono (fun e a w hq => ?_) hp
    cases e with
    | goto l => obtain ⟨m, _, hk⟩ := hq; exact ⟨m, hk⟩
    | _ => exact hq
  · obtain ⟨r, hf', hp⟩ := pass l n a w hK
    exact ⟨_, hf', wp_seq (wp_skip hp)⟩

@[go_sem] theorem jumpK_normal {J : Nat → Act → World → Prop} {Q : Exit → Act → World → Prop} {a : Act} {w : World} : jumpK J Q .normal a w = Q .normal a w := rfl
@[go_sem] theorem jumpK_exit {J : Nat → Act → World → Prop} {Q : Exit → Act → World → Prop} {a : Act} {w : World} (i : Nat) : jumpK J Q (.exit i) a w = Q (.exit i) a w := rfl
@[go_sem] theorem jumpK_ret {J : Nat → Act → World → Prop} {Q : Exit → Act → World → Prop} {a : Act} {w : World} : jumpK J Q .ret a w = Q .ret a w := rfl
@[go_sem] theorem jumpK_goto {J : Nat → Act → World → Prop} {Q : Exit → Act → World → Prop} {a : Act} {w : World} (l : Nat) : jumpK J Q (.goto l) a w = J l a w := rfl
end Go.Proofs.Ytmolddlmjojceaa
