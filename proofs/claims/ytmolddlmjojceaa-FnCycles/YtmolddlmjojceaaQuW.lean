
/- A list of numbers that is cut at its head and appended to; a map of numbers to numbers. -/
import Derived.Test.YtmolddlmjojceaaFarW
import Derived.Test.YtmolddlmjojceaaDrawA
import Derived.ArgAppend
import Derived.Maps.OwnSet
import Derived.Maps.OwnOps
namespace Go.Proofs.Ytmolddlmjojceaa
open Go.RowKit Go.Maps

/-- Numbers zs in the block g from off on, with room for cap. -/
structure OwnQ (w : World) (B g off n cap : Nat) (zs : List Int) : Prop where
  lo : B ≤ g
  lt : g < w.heap.size
  len : zs.length = n
  le : n ≤ cap
  room : ∀ j, j < cap → (w.cell? ⟨g, off + j, none⟩).isSome = true ∧ w.frozen? ⟨g, off + j, none⟩ = false
  at_ : ∀ j, j < n → w.cell? ⟨g, off + j, none⟩ = some (.int .i64 (zs.getD j 0))

theorem cell_of_heap {w w' : World} {g o : Nat} (h : w'.heap[g]? = w.heap[g]?) : w'.cell? ⟨g, o, none⟩ = w.cell? ⟨g, o, none⟩ ∧ w'.frozen? ⟨g, o, none⟩ = w.frozen? ⟨g, o, none⟩ := by
  simp [World.cell?, World.frozen?, h]
theorem OwnQ.kept {w w' : World} {B g off n cap : Nat} {zs : List Int} (q : OwnQ w B g off n cap zs) {row : Option Nat} (hg : w.grownBy w' row) (hne : row ≠ some g) : OwnQ w' B g off n cap zs := by
  have hh := hg.block g q.lt (fun e => hne e.symm)
  refine ⟨q.lo, Nat.lt_of_lt_of_le q.lt hg.size, q.len, q.le, fun j hj => ?_, fun j hj => ?_⟩
  · rw [(cell_of_heap hh).1, (cell_of_heap hh).2]; exact q.room j hj
  · rw [(cell_of_heap hh).1]; exact q.at_ j hj
theorem OwnQ.below {w w' : World} {B g off n cap : Nat} {zs : List Int} (q : OwnQ w B g off n cap zs) (hb : Below w.heap.size w w') : OwnQ w' B g off n cap zs := q.kept (gr_below hb none) (by simp)
theorem OwnQ.of_row {w : World} {B b n : Nat} {v : Value} {zs : List Int} (h : w.ownsRow b 2 1 v n (icells zs)) (hb : B ≤ b) (hn : 0 < n) : ∃ g cap, v = .slice (some ⟨g, 0, none⟩) n cap ∧ b ≤ g ∧ OwnQ w B g 0 n cap zs := by
  have hl : zs.length = n := by have := h.1; rw [icells_len] at this; omega
  rcases h.2 with ⟨_, h0⟩ | ⟨g, cap, cur, hv, hbg, hh, h1, h2, h3, h4⟩
  · omega
  refine ⟨g, cap, hv, hbg, by omega, (Array.getElem?_eq_some_iff.1 hh).1, hl, h1, fun j hj => ?_, fun j hj => ?_⟩
  · rw [Nat.zero_add]
    refine ⟨?_, by simp [World.frozen?, hh]⟩
    rw [cell_of_row _ _ _ _ _ _ hh]
    simp [show j < cur.size by omega]
  · rw [Nat.zero_add, cell_of_row _ _ _ _ _ _ hh, ← Array.getElem?_toList]
    have e : (cur.toList.take (n * 1))[j]? = (icells zs)[j]? := by rw [h4]
    rw [List.getElem?_take_of_lt (by omega)] at e
    rw [e]
    simp [icells, List.getD, show j < zs.length by omega]
/-- The address behind the first. -/
def cutQ (off cap : Nat) : Nat := if cap = 1 then off else off + 1
theorem OwnQ.cut {w : World} {B g off n cap : Nat} {zs : List Int} (q : OwnQ w B g off n cap zs) (hn : 0 < n) : OwnQ w B g (cutQ off cap) (n - 1) (cap - 1) (zs.drop 1) := by
  have hl := q.len
  have hle := q.le
  unfold cutQ
  by_cases hc : cap = 1
  · rw [if_pos hc]
    exact ⟨q.lo, q.lt, by simp; omega, by omega, fun j hj => by omega, fun j hj => by omega⟩
  · rw [if_neg hc]
    refine ⟨q.lo, q.lt, by simp; omega, by omega, fun j hj => ?_, fun j hj => ?_⟩
    · rw [show off + 1 + j = off + (1 + j) by omega]; exact q.room (1 + j) (by omega)
    · rw [show off + 1 + j = off + (1 + j) by omega, q.at_ (1 + j) (by omega)]
      simp [List.getD, Nat.add_comm 1 j]
theorem sliceQ (g off n cap : Nat) (hn : 0 < n) (w : World) :
    (Instr.slice 27 (.slice (some ⟨g, off, none⟩) n cap) (some (.int .i64 1)) none none).run Try.prog w = .ok (.slice (some ⟨g, cutQ off cap, none⟩) (n - 1) (cap - 1)) w := by
  have h0 : (0 : Int) ≤ 1 := by omega
  have h1 : (1 : Int) ≤ (n : Int) := by omega
  have hu : Try.prog.underlying 27 = some (.slice (Try.prog.elem 27)) := by kernel_rfl
  have he : Try.prog.elem 27 = 2 := by kernel_rfl
  have hs : ∀ w, (sizeOf (Try.prog.elem 27)).run Try.prog w = .ok 1 w := by intro w; rw [he]; kernel_rfl
  unfold cutQ
  rw [run_slice_l (ht := hu) (h0 := h0) (h1 := h1), hs]
  by_cases hc : cap = 1
  · subst hc; simp [Result.andThen, sliced]
  · simp [Result.andThen, sliced, hc, Addr.add_lit]

theorem wpList_appQ {ops : Array Oper} {rest : List Oper} {o : Oper} {a : Act} {w : World} {Q : Exit → Act → World → Prop} (s x : Operand) (B g off n cap : Nat) (zs : List Int) (z : Int)
    (hop : o.op = Op.call { callee := Callee.builtin Builtin.append, args := #[s, x], argTypes := #[27, 27] }) (hgd : o.guard = none)
    (hs : a.eval s = .slice (some ⟨g, off, none⟩) n cap) (hx : ∃ h c t, a.eval x = .slice (some ⟨h, 0, none⟩) 1 c ∧ w.heap[h]? = some (.cells #[.int .i64 z] t (0, 0)))
    (own : OwnQ w B g off n cap zs) (hn : n ≤ 1048576) (hB : B ≤ w.heap.size)
    (hK : ∀ g' off' cap' w', OwnQ w' B g' off' (n + 1) cap' (zs ++ [z]) → (g' = g ∨ w.heap.size ≤ g') → w.grownBy w' (some g) → wpList Try.prog ops Q rest (a.put o.dst (.slice (some ⟨g', off', none⟩) (n + 1) cap')) w') :
    wpList Try.prog ops Q (o :: rest) a w := by
  obtain ⟨h, c, t, hx, hh⟩ := hx
  obtain ⟨i0, hi0, hz0, hz1, hz2⟩ := info_parts Try.info2
  have hl := own.len
  refine wpList_append_arg w hgd s x 27 hop 2 i0 (.int .i64 0) 1 8 Try.underlying27 hi0 hz0 hz1 hz2 rfl (by decide) g off n cap (icells zs) hs (by rw [icells_len]; omega) (fun j u hj => ?_) ⟨h, 0, none⟩ 1 c [.int .i64 z] hx rfl (fun j u hj => ?_) (fun u hu => ?_) (fun hr j hj => ?_) (by unfold maxLen; omega) (by omega) (fun hr => ?_) (fun hr v' w' r1 r2 => ?_)
  · have hj' : j < zs.length := by
      have := (List.getElem?_eq_some_iff.1 hj).1
      rwa [icells_len] at this
    rw [own.at_ j (by omega)]
    simp [icells, hj'] at hj
    rw [← hj]
    simp [List.getD, hj']
  · have hj0 : j = 0 := by
      have := (List.getElem?_eq_some_iff.1 hj).1
      simp at this
      exact this
    subst hj0
    simp at hj
    subst hj
    rw [Addr.add_lit, Nat.zero_add, cell_of_row _ _ _ _ _ _ hh]
    rfl
  · simp at hu; subst hu; rfl
  · simp at hj
    subst hj
    rw [Nat.mul_one, Nat.add_zero]
    exact own.room n (by omega)
  · have hc : (w.cell? ⟨g, off + n, none⟩).isSome = true := (own.room n (by omega)).1
    have hE : w.setCells g (off + n * 1) [.int .i64 z] = w.setCell ⟨g, off + n, none⟩ (.int .i64 z) := by rw [Nat.mul_one]; rfl
    have hne : ∀ j, ¬ j = n → (⟨g, off + n, none⟩ : Addr) ≠ ⟨g, off + j, none⟩ := fun j hj e2 => by
      simp only [Addr.mk.injEq, true_and, and_true] at e2
      omega
    rw [hE]
    refine hK g off cap _ ⟨own.lo, by simpa [World.setCell] using own.lt, by simp; omega, hr, fun j hj => ?_, fun j hj => ?_⟩ (.inl rfl) gr_set
    · have := own.room j hj
      rw [World.frozen?_setCell]
      refine ⟨?_, this.2⟩
      by_cases e : j = n
      · subst e; rw [World.cell?_setCell_same' _ _ _ hc]; rfl
      · rw [World.cell?_setCell_other (h := hne j e)]; exact this.1
    · by_cases e : j = n
      · subst e
        rw [World.cell?_setCell_same' _ _ _ hc]
        simp [List.getD, ← hl]
      · rw [World.cell?_setCell_other (h := hne j e), own.at_ j (by omega)]
        simp [List.getD, List.getElem?_append_left (show j < zs.length by omega)]
  · rw [show icells zs ++ [.int .i64 z] = icells (zs ++ [z]) from by simp [icells]] at r1
    obtain ⟨g', cap', rfl, hg', q'⟩ := OwnQ.of_row r1 hB (by omega)
    exact hK g' 0 cap' w' q' (.inr hg') ⟨r2.os, r2.tape, r2.output, r2.size, fun k hk _ => r2.block k hk (by simp)⟩

theorem Try.keyedI : Keyed Try.prog 2 := int_keyed Try.underlying2
def kI (x : Int) : Lit := .int .i64 x
theorem kI_key {x : Int} (h : 1 ≤ x ∧ x ≤ 999) : keyOf Try.prog 2 (.int .i64 x) = some (kI x) := keyOf_int_mk Try.underlying2 (WalkArith.wf_i64 (by omega))
theorem kI_isKey (x : Int) : WideAt.IsKeyLit (kI x) := by unfold kI; simp [WideAt.IsKeyLit]
theorem kI_ne {a b : Int} (h : a ≠ b) : kI a ≠ kI b := by unfold kI; simpa using h
def nI (x : Int) : DataW Unit := .lit (.int .i64 x)
theorem plainI {x : Int} (h : 1 ≤ x ∧ x ≤ 999) : plainElem Try.prog 2 (.int .i64 x) = some (nI x, []) := plainElem_int Try.underlying2 (WalkArith.wf_i64 (by omega))

/-- From whom each was reached. -/
structure MpC (s : Ch.Rch) (D : DataW Unit) : Prop where
  has : ∀ i, 0 < i → i < s.vs.length → Maps.has D (kI (s.v i)) = true ∧ ∀ z, D.atKey (kI (s.v i)) z = nI (s.v (s.par i))
  only : ∀ x, Maps.has D (kI x) = true → ∃ i, 0 < i ∧ i < s.vs.length ∧ s.v i = x
theorem MpC.one (t : Int) : MpC (Ch.Rch.one t) (.map []) := ⟨fun i h0 h1 => by simp [Ch.Rch.one] at h1; omega, fun x h => by simp [Maps.has] at h⟩
theorem MpC.add {s : Ch.Rch} {D : DataW Unit} (h : MpC s D) (hD : Tidy D) (hl : s.ps.length = s.vs.length) {u : Int} {p : Nat} (hp : p < s.vs.length) (hlow : ∀ i, 0 < i → i < s.vs.length → s.par i < s.vs.length) (hu : u ∉ s.vs) : MpC (s.add u p) (D.put (kI u) (nI (s.v p))) := by
  have hle := Ch.Rch.len_add (s := s) (u := u) (p := p)
  refine ⟨fun i h0 h1 => ?_, fun x hx => ?_⟩
  · by_cases e : i = s.vs.length
    · subst e
      rw [Ch.Rch.v_new, Ch.Rch.par_new hl, Ch.Rch.v_old hp]
      exact ⟨has_put_same hD.isMap (kI_isKey _) _, fun z => atKey_put_same hD.isMap (kI_isKey _) _ z⟩
    · have hi : i < s.vs.length := by omega
      have hne : s.v i ≠ u := fun e2 => hu (Ch.Rch.mem.2 ⟨i, hi, e2⟩)
      rw [Ch.Rch.v_old hi, Ch.Rch.par_old hl hi, Ch.Rch.v_old (hlow i h0 hi), has_put_other (kI_ne hne)]
      refine ⟨(h.has i h0 hi).1, fun z => ?_⟩
      rw [atKey_put_other (kI_ne hne)]
      exact (h.has i h0 hi).2 z
  · by_cases e : x = u
    · exact ⟨s.vs.length, by omega, by omega, by rw [Ch.Rch.v_new, e]⟩
    · rw [has_put_other (kI_ne e)] at hx
      obtain ⟨i, h0, hi, hv⟩ := h.only x hx
      exact ⟨i, h0, by omega, by rw [Ch.Rch.v_old hi]; exact hv⟩
end Go.Proofs.Ytmolddlmjojceaa
