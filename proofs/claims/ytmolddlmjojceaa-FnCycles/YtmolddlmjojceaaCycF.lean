
/- Plain: how far each is from coming to one, as the model reckons it, round by round. No Go in it. -/
import Derived.Test.YtmolddlmjojceaaCycM
namespace Go.Proofs.Ytmolddlmjojceaa

/-- One edge in a round. -/
def Ch.farOne (r : Nat) (f : Int → Int) (e : Int × Int) : Int → Int := if f e.2 = r ∧ f e.1 < 0 then fun y => if y = e.1 then (r : Int) + 1 else f y else f
def Ch.farStep (es : List (Int × Int)) (r : Nat) (f : Int → Int) : Int → Int := es.foldl (Ch.farOne r) f
def Ch.farN (es : List (Int × Int)) (t : Int) : Nat → Int → Int
  | 0 => fun x => if x = t then 0 else -1
  | r + 1 => Ch.farStep es r (Ch.farN es t r)
def Ch.hit (es : List (Int × Int)) (r : Nat) (f : Int → Int) (x : Int) : Bool := es.any (fun e => decide (e.1 = x) && decide (f e.2 = r))

theorem Ch.farStep_is (es : List (Int × Int)) (r : Nat) (f : Int → Int) : ∀ x, Ch.farStep es r f x = if 0 ≤ f x then f x else if Ch.hit es r f x = true then (r : Int) + 1 else f x := by
  suffices H : ∀ (es done : List (Int × Int)) (g : Int → Int), (∀ x, g x = if 0 ≤ f x then f x else if Ch.hit done r f x = true then (r : Int) + 1 else f x) → ∀ x, es.foldl (Ch.farOne r) g x = if 0 ≤ f x then f x else if Ch.hit (done ++ es) r f x = true then (r : Int) + 1 else f x by
    intro x
    have := H es [] f (fun x => by simp [Ch.hit]) x
    simpa [Ch.farStep] using this
  intro es
  induction es with
  | nil => intro done g hg x; simpa using hg x
  | cons e es ih =>
    intro done g hg x
    rw [List.foldl_cons]
    have := ih (done ++ [e]) (Ch.farOne r g e) ?_ x
    · simpa using this
    intro y
    have hm : g e.2 = r ↔ f e.2 = r := by
      rw [hg e.2]
      by_cases h0 : 0 ≤ f e.2
      · rw [if_pos h0]
      · rw [if_neg h0]
        split
        · constructor <;> intro h <;> omega
        · rfl
    have hhit : Ch.hit (done ++ [e]) r f y = (Ch.hit done r f y || (decide (e.1 = y) && decide (f e.2 = r))) := by
      unfold Ch.hit; simp
    unfold Ch.farOne
    by_cases hc : g e.2 = r ∧ g e.1 < 0
    · rw [if_pos hc]
      have hf2 := hm.1 hc.1
      have h1 := hg e.1
      by_cases h0 : 0 ≤ f e.1
      · rw [if_pos h0] at h1; omega
      · by_cases hy : y = e.1
        · subst hy
          rw [if_pos rfl, if_neg h0, hhit]
          simp [hf2]
        · rw [if_neg hy, hg y, hhit]
          have : decide (e.1 = y) = false := by simp; exact fun h => hy h.symm
          rw [this]; simp
    · rw [if_neg hc, hg y, hhit]
      by_cases h0 : 0 ≤ f y
      · rw [if_pos h0, if_pos h0]
      · rw [if_neg h0, if_neg h0]
        by_cases hd : Ch.hit done r f y = true
        · simp [hd]
        · have hd' : Ch.hit done r f y = false := by simpa using hd
          have hgy : g y = f y := by rw [hg y, if_neg h0, if_neg hd]
          have : (decide (e.1 = y) && decide (f e.2 = r)) = false := by
            by_cases he : e.1 = y
            · subst he
              have : ¬ f e.2 = r := fun h => hc ⟨hm.2 h, by omega⟩
              simp [this]
            · simp [he]
          rw [hd', this]; rfl

/-- What holds behind r rounds. -/
structure Ch.FarTo (es : List (Int × Int)) (t : Int) (r : Nat) (f : Int → Int) : Prop where
  low : ∀ x, -1 ≤ f x
  high : ∀ x, f x ≤ r
  zero : ∀ x, f x = 0 ↔ x = t
  down : ∀ x (d : Nat), f x = (d : Int) + 1 → ∃ e ∈ es, e.1 = x ∧ f e.2 = d
  up : ∀ (d : Nat), d < r → ∀ e ∈ es, f e.2 = d → 0 ≤ f e.1 ∧ f e.1 ≤ (d : Int) + 1

theorem Ch.farN_to (es : List (Int × Int)) (t : Int) : ∀ r, Ch.FarTo es t r (Ch.farN es t r) := by
  intro r
  induction r with
  | zero =>
    refine ⟨fun x => ?_, fun x => ?_, fun x => ?_, fun x d h => ?_, fun d hd => by omega⟩
    · unfold Ch.farN; split <;> omega
    · unfold Ch.farN; split <;> omega
    · unfold Ch.farN; split
      · simp [*]
      · constructor
        · intro h; omega
        · intro h; contradiction
    · unfold Ch.farN at h; split at h <;> omega
  | succ r ih =>
    have F := Ch.farStep_is es r (Ch.farN es t r)
    have e1 : Ch.farN es t (r + 1) = Ch.farStep es r (Ch.farN es t r) := rfl
    rw [e1]
    clear e1
    generalize Ch.farN es t r = f at *
    have old : ∀ x, 0 ≤ f x → Ch.farStep es r f x = f x := fun x h => by rw [F x, if_pos h]
    refine ⟨fun x => ?_, fun x => ?_, fun x => ?_, fun x d h => ?_, fun d hd e he hf => ?_⟩
    · rw [F x]; have := ih.low x; split <;> (try split) <;> omega
    · rw [F x]; have := ih.high x; split <;> (try split) <;> omega
    · rw [F x]
      by_cases h0 : 0 ≤ f x
      · rw [if_pos h0]; exact ih.zero x
      · rw [if_neg h0]
        have hx : ¬ x = t := fun e => h0 (by rw [(ih.zero x).2 e]; omega)
        split
        · constructor
          · intro h; omega
          · intro h; contradiction
        · constructor
          · intro h; omega
          · intro h; contradiction
    · rw [F x] at h
      by_cases h0 : 0 ≤ f x
      · rw [if_pos h0] at h
        obtain ⟨e, he, h1, h2⟩ := ih.down x d h
        exact ⟨e, he, h1, by rw [old _ (by omega)]; exact h2⟩
      · rw [if_neg h0] at h
        by_cases hh : Ch.hit es r f x = true
        · rw [if_pos hh] at h
          obtain ⟨e, he, h1⟩ := List.any_eq_true.1 hh
          simp only [Bool.and_eq_true, decide_eq_true_eq] at h1
          exact ⟨e, he, h1.1, by rw [old _ (by omega)]; omega⟩
        · rw [if_neg hh] at h; omega
    · by_cases h0 : 0 ≤ f e.2
      · rw [old _ h0] at hf
        by_cases hdr : d < r
        · have := ih.up d hdr e he hf
          rw [old _ this.1]; exact this
        · have hd' : d = r := by omega
          subst hd'
          by_cases h1 : 0 ≤ f e.1
          · rw [old _ h1]; exact ⟨h1, by have := ih.high e.1; omega⟩
          · have hh : Ch.hit es d f e.1 = true := List.any_eq_true.2 ⟨e, he, by simp [hf]⟩
            rw [F e.1, if_neg h1, if_pos hh]
            omega
      · rw [F e.2, if_neg h0] at hf
        split at hf <;> omega

/-- Each number up to one that is reached is reached, by one that an edge goes out of. -/
theorem Ch.FarTo.chain {es : List (Int × Int)} {t : Int} {r : Nat} {f : Int → Int} (F : Ch.FarTo es t r f) : ∀ (d : Nat) (x : Int), f x = d → ∃ l : List Int, l.length = d ∧ l.Nodup ∧ (∀ y ∈ l, (∃ e ∈ es, e.1 = y) ∧ 0 < f y ∧ f y ≤ d) := by
  intro d
  induction d with
  | zero => intro x _; exact ⟨[], rfl, List.nodup_nil, fun y hy => by cases hy⟩
  | succ d ih =>
    intro x hx
    obtain ⟨e, he, h1, h2⟩ := F.down x d (by rw [hx]; simp)
    obtain ⟨l, hl, hn, hy⟩ := ih e.2 h2
    refine ⟨x :: l, by simp [hl], List.nodup_cons.2 ⟨fun hm => ?_, hn⟩, fun y hm => ?_⟩
    · have := (hy x hm).2.2
      rw [hx] at this; omega
    · rcases List.mem_cons.1 hm with rfl | hm
      · exact ⟨⟨e, he, h1⟩, by rw [hx]; omega, by rw [hx]; omega⟩
      · obtain ⟨h3, h4, h5⟩ := hy y hm
        exact ⟨h3, h4, by omega⟩

theorem Ch.nodup_le {l : List Int} {m : List Int} (hn : l.Nodup) (hs : ∀ y ∈ l, y ∈ m) : l.length ≤ m.length := by
  induction l generalizing m with
  | nil => simp
  | cons a l ih =>
    rw [List.nodup_cons] at hn
    have ha := hs a (List.mem_cons_self ..)
    have := ih (m := m.erase a) hn.2 (fun y hy => (List.mem_erase_of_ne (fun e : y = a => hn.1 (by rw [← e]; exact hy))).2 (hs y (List.mem_cons_of_mem _ hy)))
    rw [List.length_erase_of_mem ha] at this
    have hp : 0 < m.length := List.length_pos_of_mem ha
    simp; omega

/-- The rounds suffice: an edge to one that is reached comes from one that is reached. -/
theorem Ch.far_up {es : List (Int × Int)} {t : Int} {f : Int → Int} (F : Ch.FarTo es t es.length f) {e : Int × Int} (he : e ∈ es) {d : Nat} (hf : f e.2 = d) : 0 ≤ f e.1 ∧ f e.1 ≤ (d : Int) + 1 := by
  by_cases hd : d < es.length
  · exact F.up d hd e he hf
  · have hh := F.high e.2
    have hde : d = es.length := by omega
    have hh1 := F.high e.1
    have hl1 := F.low e.1
    by_cases h0 : 0 ≤ f e.1
    · exact ⟨h0, by omega⟩
    · exfalso
      obtain ⟨l, hl, hn, hy⟩ := F.chain d e.2 hf
      have := Ch.nodup_le (l := e.1 :: l) (m := es.map Prod.fst) (List.nodup_cons.2 ⟨fun hm => by have := (hy _ hm).2.1; omega, hn⟩) (fun y hm => by
        rcases List.mem_cons.1 hm with rfl | hm
        · exact List.mem_map.2 ⟨e, he, rfl⟩
        · obtain ⟨e', he', h'⟩ := (hy y hm).1
          exact List.mem_map.2 ⟨e', he', h'⟩)
      simp at this
      omega

/-- So it is how far each is from coming to t. -/
theorem Ch.far_is {es : List (Int × Int)} {t : Int} {sc : Int → List Int} (hsc : ∀ x u, u ∈ sc x ↔ (x, u) ∈ es) : Ch.Far sc t (fun x => if 0 ≤ Ch.farN es t es.length x then some (Ch.farN es t es.length x).toNat else none) := by
  have F := Ch.farN_to es t es.length
  generalize Ch.farN es t es.length = f at *
  refine ⟨fun x => ?_, fun x d h => ?_, fun x u d hu h => ?_⟩
  · have := F.zero x
    by_cases h0 : 0 ≤ f x
    · simp only [if_pos h0, Option.some.injEq]
      rw [← this]; omega
    · simp only [if_neg h0]
      constructor
      · intro h; cases h
      · intro h; exact absurd (this.2 h) (by omega)
  · by_cases h0 : 0 ≤ f x
    · simp only [if_pos h0, Option.some.injEq] at h
      obtain ⟨e, he, h1, h2⟩ := F.down x d (by omega)
      refine ⟨e.2, (hsc x e.2).2 (by rw [← h1]; exact he), ?_⟩
      simp only [if_pos (show 0 ≤ f e.2 by omega), Option.some.injEq]
      omega
    · simp only [if_neg h0] at h; cases h
  · by_cases h0 : 0 ≤ f u
    · simp only [if_pos h0, Option.some.injEq] at h
      have := Ch.far_up F ((hsc x u).1 hu) (d := d) (by show f u = d; omega)
      refine ⟨(f x).toNat, by have := this.2; simp only at this; omega, ?_⟩
      simp only [if_pos this.1]
    · simp only [if_neg h0] at h; cases h
end Go.Proofs.Ytmolddlmjojceaa
