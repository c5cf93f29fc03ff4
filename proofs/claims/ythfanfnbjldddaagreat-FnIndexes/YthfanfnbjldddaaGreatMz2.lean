/- Several texts in one: EdK, BfA, UnM, MapM, IxM, PutF, RecM, SetM, UndM, SetN, IxN. -/
import Derived.Test.YthfanfnbjldddaaGreatMz1
import Derived.Test.YthfanfnbjldddaaGreatRowa
import Derived.Test.YthfanfnbjldddaaGreatPutN
import Derived.Test.YthfanfnbjldddaaGreatFindW
import Derived.Test.YthfanfnbjldddaaGreatScanW
import Derived.Test.YthfanfnbjldddaaGreatGoodM
import Derived.Lib.SmallJoins
import Derived.Test.YthfanfnbjldddaaGreatMz0
import Derived.Test.YthfanfnbjldddaaGreatMath
import Derived.Test.YthfanfnbjldddaaGreatLvsM


/- Plain: edges in their order, each once. -/
namespace Go.Proofs.YthfanfnbjldddaaGreat.Ch

def ltE (a b : Hold) : Bool := decide (a.t < b.t) || (decide (a.t = b.t) && decide (a.m < b.m))
theorem ltE_iff {a b : Hold} : ltE a b = true ↔ a.t < b.t ∨ (a.t = b.t ∧ a.m < b.m) := by simp [ltE]
theorem ltE_irrefl (a : Hold) : ltE a a = false := by
  cases h : ltE a a
  · rfl
  · rw [ltE_iff] at h; omega
theorem ltE_trans {a b c : Hold} (h1 : ltE a b = true) (h2 : ltE b c = true) : ltE a c = true := by
  rw [ltE_iff] at *; omega
theorem ltE_total {a b : Hold} (h1 : ltE a b = false) (h2 : a ≠ b) : ltE b a = true := by
  rw [ltE_iff]
  have h : ¬ (a.t < b.t ∨ (a.t = b.t ∧ a.m < b.m)) := fun e => by rw [ltE_iff.2 e] at h1; cases h1
  have : ¬ (a.t = b.t ∧ a.m = b.m) := fun e => h2 (by cases a; cases b; simp at e; simp [e])
  omega
def sameE (a b : Hold) : Bool := decide (a.t = b.t) && decide (a.m = b.m)
theorem sameE_iff {a b : Hold} : sameE a b = true ↔ a = b := by
  cases a; cases b; simp [sameE]
/-- One edge more, in its place, once. -/
def insE : List Hold → Hold → List Hold
  | [], e => [e]
  | x :: l, e => if ltE x e then x :: insE l e else if sameE x e then x :: l else e :: x :: l
def SortE (l : List Hold) : Prop := l.Pairwise fun a b => ltE a b = true
theorem insE_mem {l : List Hold} {e y : Hold} : y ∈ insE l e ↔ y = e ∨ y ∈ l := by
  induction l with
  | nil => simp [insE]
  | cons x l ih =>
    unfold insE
    split
    · simp only [List.mem_cons, ih]
      constructor
      · rintro (h | h | h)
        · exact .inr (.inl h)
        · exact .inl h
        · exact .inr (.inr h)
      · rintro (h | h | h)
        · exact .inr (.inl h)
        · exact .inl h
        · exact .inr (.inr h)
    · split
      · next h => rw [sameE_iff] at h; subst h; simp
      · simp
theorem insE_sort {l : List Hold} (h : SortE l) (e : Hold) : SortE (insE l e) := by
  unfold SortE at *
  induction l with
  | nil => simp [insE]
  | cons x l ih =>
    rw [List.pairwise_cons] at h
    unfold insE
    split
    · next hx =>
      rw [List.pairwise_cons]
      refine ⟨fun y hy => ?_, ih h.2⟩
      rcases insE_mem.1 hy with rfl | hy
      · exact hx
      · exact h.1 y hy
    · next hx =>
      split
      · rw [List.pairwise_cons]; exact h
      · next hne =>
        have hex := ltE_total (by simpa using hx) (fun e' => hne (sameE_iff.2 e'))
        rw [List.pairwise_cons, List.pairwise_cons]
        refine ⟨fun y hy => ?_, h⟩
        rcases List.mem_cons.1 hy with rfl | hy
        · exact hex
        · exact ltE_trans hex (h.1 y hy)
theorem sort_same {a b : List Hold} (ha : SortE a) (hb : SortE b) (h : ∀ x, x ∈ a ↔ x ∈ b) : a = b := by
  unfold SortE at *
  induction a generalizing b with
  | nil =>
    cases b with
    | nil => rfl
    | cons y b => exact absurd ((h y).2 (by simp)) (by simp)
  | cons x a ih =>
    cases b with
    | nil => exact absurd ((h x).1 (by simp)) (by simp)
    | cons y b =>
      rw [List.pairwise_cons] at ha hb
      have hxy : x = y := by
        rcases List.mem_cons.1 ((h x).1 (by simp)) with e | e
        · exact e
        · rcases List.mem_cons.1 ((h y).2 (by simp)) with e2 | e2
          · exact e2.symm
          · have := ltE_trans (hb.1 x e) (ha.1 y e2)
            rw [ltE_irrefl] at this; cases this
      subst hxy
      congr 1
      refine ih ha.2 hb.2 fun z => ?_
      have hz : ∀ {l : List Hold}, (∀ w ∈ l, ltE x w = true) → z ∈ l → z ≠ x := fun hl hm e => by
        have := hl z hm
        rw [e, ltE_irrefl] at this; cases this
      constructor
      · intro hm
        rcases List.mem_cons.1 ((h z).1 (List.mem_cons_of_mem _ hm)) with e | e
        · exact absurd e (hz ha.1 hm)
        · exact e
      · intro hm
        rcases List.mem_cons.1 ((h z).2 (List.mem_cons_of_mem _ hm)) with e | e
        · exact absurd e (hz hb.1 hm)
        · exact e
/-- Where a walk finds its place. -/
theorem insE_at {l : List Hold} {e : Hold} {k : Nat} (hk : k ≤ l.length) (h1 : ∀ j, j < k → ltE (l.getD j Hold.zero) e = true) (h2 : k < l.length → ltE (l.getD k Hold.zero) e = false) :
    insE l e = if (decide (k < l.length) && sameE (l.getD k Hold.zero) e) = true then l else l.take k ++ [e] ++ l.drop k := by
  induction l generalizing k with
  | nil =>
    have : k = 0 := by simpa using hk
    subst this
    simp [insE]
  | cons x l ih =>
    cases k with
    | zero =>
      have hx : ltE x e = false := by simpa using h2 (by simp)
      unfold insE
      rw [hx]
      cases he : sameE x e
      · simp [he]
      · simp [he]
    | succ k =>
      have hx : ltE x e = true := by simpa using h1 0 (by omega)
      unfold insE
      rw [hx, if_pos rfl, ih (k := k) (by simpa using hk) (fun j hj => by simpa using h1 (j + 1) (by omega)) (fun hl => by simpa using h2 (by simpa using hl))]
      have e2 : (decide (k + 1 < (x :: l).length) && sameE ((x :: l).getD (k + 1) Hold.zero) e) = (decide (k < l.length) && sameE (l.getD k Hold.zero) e) := by simp
      rw [e2]
      split
      · rfl
      · simp
def sortE (l : List Hold) : List Hold := l.foldl insE []
theorem sortE_snoc (l : List Hold) (e : Hold) : sortE (l ++ [e]) = insE (sortE l) e := by simp [sortE]
theorem sortE_sort (l : List Hold) : SortE (sortE l) := by
  unfold sortE
  suffices H : ∀ (l acc : List Hold), SortE acc → SortE (l.foldl insE acc) from H l [] (by simp [SortE])
  intro l
  induction l with
  | nil => intro acc h; exact h
  | cons x l ih => intro acc h; exact ih _ (insE_sort h x)
theorem sortE_mem {l : List Hold} {y : Hold} : y ∈ sortE l ↔ y ∈ l := by
  unfold sortE
  suffices H : ∀ (l acc : List Hold), y ∈ l.foldl insE acc ↔ y ∈ acc ∨ y ∈ l by simpa using H l []
  intro l
  induction l with
  | nil => intro acc; simp
  | cons x l ih =>
    intro acc
    simp only [List.foldl_cons, List.mem_cons]
    rw [ih, insE_mem]
    constructor
    · rintro ((h | h) | h)
      · exact .inr (.inl h)
      · exact .inl h
      · exact .inr (.inr h)
    · rintro (h | h | h)
      · exact .inl (.inr h)
      · exact .inl (.inl h)
      · exact .inr h
/-- For whom one waits: those that hold in its way, those that stand ahead. -/
def waitE (q : Hold) (hs : List Hold) : List Hold := (hs.filter fun h => h.t != q.t && !fits h.m q.m).map fun h => ⟨q.t, h.t⟩
def aheadE (q : Hold) (qs : List Hold) : List Hold := qs.map fun x => ⟨q.t, x.t⟩
def queueE (l : Lock) (k : Nat) : List Hold := (List.range k).flatMap fun i => waitE (l.qs.getD i Hold.zero) l.hs ++ aheadE (l.qs.getD i Hold.zero) (l.qs.take i)
def allE (ls : List Lock) : List Hold := ls.flatMap fun l => queueE l l.qs.length
def edgesR (ls : List Lock) : Int × List Hold := if locksFault ls != 0 then (locksFault ls, []) else (0, sortE (allE ls))
theorem allE_next {ls : List Lock} {k : Nat} (h : k < ls.length) : allE (ls.take (k + 1)) = allE (ls.take k) ++ queueE (lkAt ls k) (lkAt ls k).qs.length := by
  unfold allE lkAt
  rw [take_snoc ls Lock.zero k h]; simp
theorem queueE_next (l : Lock) (k : Nat) : queueE l (k + 1) = queueE l k ++ (waitE (l.qs.getD k Hold.zero) l.hs ++ aheadE (l.qs.getD k Hold.zero) (l.qs.take k)) := by
  unfold queueE
  rw [List.range_succ, List.flatMap_append]; simp
theorem waitE_yes {q : Hold} {hs : List Hold} {k : Nat} (h : k < hs.length) (hc : ((hs.getD k Hold.zero).t != q.t && !fits (hs.getD k Hold.zero).m q.m) = true) : waitE q (hs.take (k + 1)) = waitE q (hs.take k) ++ [⟨q.t, (hs.getD k Hold.zero).t⟩] := by
  unfold waitE
  rw [take_snoc hs Hold.zero k h, List.filter_append, List.map_append]
  generalize hs.getD k Hold.zero = x at *
  rw [List.filter_cons_of_pos (p := fun h : Hold => h.t != q.t && !fits h.m q.m) hc]; rfl
theorem waitE_no {q : Hold} {hs : List Hold} {k : Nat} (h : k < hs.length) (hc : ((hs.getD k Hold.zero).t != q.t && !fits (hs.getD k Hold.zero).m q.m) = false) : waitE q (hs.take (k + 1)) = waitE q (hs.take k) := by
  unfold waitE
  rw [take_snoc hs Hold.zero k h, List.filter_append, List.map_append]
  generalize hs.getD k Hold.zero = x at *
  rw [List.filter_cons_of_neg (p := fun h : Hold => h.t != q.t && !fits h.m q.m) (by simp only [hc]; simp)]; simp
theorem aheadE_next {q : Hold} {qs : List Hold} {k : Nat} (h : k < qs.length) : aheadE q (qs.take (k + 1)) = aheadE q (qs.take k) ++ [⟨q.t, (qs.getD k Hold.zero).t⟩] := by
  unfold aheadE
  rw [take_snoc qs Hold.zero k h]; simp
end Go.Proofs.YthfanfnbjldddaaGreat.Ch


/- What was before a change: a key, whether it had a value, and which: in memory; the laws' functions on it. -/
namespace Go.Proofs.YthfanfnbjldddaaGreat
open Go.RowKit

structure Ch.Bf where
  k : Int
  h : Bool
  v : Int
def Ch.Bf.zero : Ch.Bf := ⟨0, false, 0⟩

/-- Rows as values: three cells each. -/
def bfcells (rs : List Ch.Bf) : List Value := rs.flatMap fun r => [.int .i64 r.k, .bool r.h, .int .i64 r.v]

theorem bfcells_len (rs : List Ch.Bf) : (bfcells rs).length = rs.length * 3 := by
  induction rs with
  | nil => rfl
  | cons r rs ih => simp only [bfcells, List.flatMap_cons, List.length_append, List.length_cons, List.length_nil] at *; omega

theorem bfcells_at (rs : List Ch.Bf) (k : Nat) (h : k < rs.length) : (bfcells rs)[k * 3]? = some (.int .i64 (rs.getD k Ch.Bf.zero).k) ∧ (bfcells rs)[k * 3 + 1]? = some (.bool (rs.getD k Ch.Bf.zero).h) ∧ (bfcells rs)[k * 3 + 2]? = some (.int .i64 (rs.getD k Ch.Bf.zero).v) := by
  induction rs generalizing k with
  | nil => simp at h
  | cons r rs ih =>
    cases k with
    | zero => simp [bfcells]
    | succ k =>
      have := ih k (by simpa using h)
      simp only [bfcells, List.flatMap_cons] at *
      rw [show (k + 1) * 3 = k * 3 + 1 + 1 + 1 by omega]
      simpa using this

theorem CellsAt.bflen {w : World} {a : Option Addr} {n : Nat} {rs : List Ch.Bf} (h : CellsAt w a (n * 3) (bfcells rs)) : Hid (n = rs.length) := by
  have := h.1
  rw [bfcells_len] at this
  exact (by omega : n = rs.length)

theorem CellsAt.bef {w : World} {a : Option Addr} {n : Nat} {rs : List Ch.Bf} (h : CellsAt w a (n * 3) (bfcells rs)) {k : Nat} (hk : k < n) :
    ∃ b off, a = some ⟨b, off, none⟩ ∧ w.cell? ⟨b, off + k * 3, none⟩ = some (.int .i64 (rs.getD k Ch.Bf.zero).k) ∧ w.cell? ⟨b, off + k * 3 + 1, none⟩ = some (.bool (rs.getD k Ch.Bf.zero).h) ∧ w.cell? ⟨b, off + k * 3 + 2, none⟩ = some (.int .i64 (rs.getD k Ch.Bf.zero).v) := by
  obtain ⟨b, off, ha, hc⟩ := h.2 (by omega)
  have hl := h.bflen.out
  obtain ⟨h0, h1, h2⟩ := bfcells_at rs k (by omega)
  exact ⟨b, off, ha, (hc _ (by omega)).trans h0, by rw [Nat.add_assoc]; exact (hc _ (by omega)).trans h1, by rw [Nat.add_assoc]; exact (hc _ (by omega)).trans h2⟩

theorem bfcells_set (rs : List Ch.Bf) (k : Nat) (r : Ch.Bf) (h : k < rs.length) :
    (((bfcells rs).set (k * 3) (.int .i64 r.k)).set (k * 3 + 1) (.bool r.h)).set (k * 3 + 2) (.int .i64 r.v) = bfcells (rs.set k r) := by
  induction rs generalizing k with
  | nil => simp at h
  | cons q rs ih =>
    cases k with
    | zero => simp [bfcells]
    | succ k =>
      have := ih k (by simpa using h)
      simp only [bfcells, List.flatMap_cons, List.set_cons_succ] at *
      rw [← this, show (k + 1) * 3 = k * 3 + 1 + 1 + 1 by omega]
      simp

theorem made_befs (n : Nat) : (madeCells (Value.agg #[.int .i64 0, .bool false, .int .i64 0]).cells (n * 3)).toList = bfcells (List.replicate n Ch.Bf.zero) := by
  apply List.ext_getElem?
  intro j
  by_cases hj : j < n * 3
  · have hl : j / 3 < n := by omega
    obtain ⟨h0, h1, h2⟩ := bfcells_at (List.replicate n Ch.Bf.zero) (j / 3) (by simpa using hl)
    simp only [List.getD, List.getElem?_replicate, hl, if_true, Option.getD_some, Ch.Bf.zero] at h0 h1 h2
    have hm : j % 3 < 3 := Nat.mod_lt _ (by decide)
    have he : j = j / 3 * 3 + j % 3 := by omega
    have e : (madeCells (Value.agg #[.int .i64 0, .bool false, .int .i64 0]).cells (n * 3)).toList[j]? = #[Value.int .i64 0, .bool false, .int .i64 0][j % 3]? := by
      simp [madeCells, hj, Value.cells, hm]
    rw [e]
    generalize j % 3 = m at *
    generalize j / 3 = q at *
    subst he
    match m, hm with
    | 0, _ => exact h0.symm
    | 1, _ => exact h1.symm
    | 2, _ => exact h2.symm
  · have := bfcells_len (List.replicate n Ch.Bf.zero)
    rw [List.getElem?_eq_none (by simp [madeCells]; omega), List.getElem?_eq_none (by rw [this]; simp; omega)]

theorem Tryz.info36 : (Tryz.prog.info? 36).map (fun i => (i.zero, i.size, i.bytes)) = some (some (.agg #[.int .i64 0, .bool false, .int .i64 0]), 3, 24) := by kernel_rfl

/-- What the copy holds behind k rounds. -/
def bfcopied (rs : List Ch.Bf) (n k : Nat) : List Value := bfcells (rs.take k ++ List.replicate (n - k) Ch.Bf.zero)

theorem bfcopied_end {rs : List Ch.Bf} {n : Nat} (h : n = rs.length) : bfcopied rs n n = bfcells rs := by
  subst h; simp [bfcopied]

theorem bfcopied_set {rs : List Ch.Bf} {n k : Nat} (h : n = rs.length) (hk : k < n) : (((bfcopied rs n k).set (k * 3) (.int .i64 (rs.getD k Ch.Bf.zero).k)).set (k * 3 + 1) (.bool (rs.getD k Ch.Bf.zero).h)).set (k * 3 + 2) (.int .i64 (rs.getD k Ch.Bf.zero).v) = bfcopied rs n (k + 1) := by
  unfold bfcopied
  rw [bfcells_set _ _ _ (by simp; omega), fill_set rs _ _ n k h hk]

/-- The marks that a law writes into rows, the first one s. -/
def bfmark (s : Int) (k : Nat) : Ch.Bf := ⟨s + 3 * (k : Int), (s + 3 * (k : Int) + 1) % 3 == 0, s + 3 * (k : Int) + 1 + 1⟩

def bfmarks (s : Int) (n : Nat) : List Ch.Bf := (List.range n).map (bfmark s)

theorem bfmarks_len (s : Int) (n : Nat) : (bfmarks s n).length = n := by simp [bfmarks]

theorem bfmarks_snoc (s : Int) (n : Nat) : bfmarks s (n + 1) = bfmarks s n ++ [bfmark s n] := by simp [bfmarks, List.range_succ]

theorem bfmarks_at (s : Int) (n k : Nat) (h : k < n) : (bfmarks s n).getD k Ch.Bf.zero = bfmark s k := by simp [bfmarks, List.getD, h]

/-- The rows behind k marks. -/
def bfmarked (s : Int) (rs : List Ch.Bf) (k : Nat) : List Ch.Bf := bfmarks s k ++ rs.drop k

theorem bfmarked_set (s : Int) (rs : List Ch.Bf) (k : Nat) (h : k < rs.length) :
    (((bfcells (bfmarked s rs k)).set (k * 3) (.int .i64 (s + 3 * (k : Int)))).set (k * 3 + 1) (.bool ((s + 3 * (k : Int) + 1) % 3 == 0))).set (k * 3 + 2) (.int .i64 (s + 3 * (k : Int) + 1 + 1)) = bfcells (bfmarked s rs (k + 1)) := by
  have := bfcells_set (bfmarked s rs k) k (bfmark s k) (by simp [bfmarked, bfmarks_len]; omega)
  rw [show bfcells (bfmarked s rs (k + 1)) = bfcells ((bfmarked s rs k).set k (bfmark s k)) by unfold bfmarked; rw [Ch.set_mid _ _ _ _ (bfmarks_len s k) h, bfmarks_snoc], ← this]
  rfl

end Go.Proofs.YthfanfnbjldddaaGreat


/- Plain facts of chapter 8: what was before a change, a value in leaves, rows that are no ghosts. No Go in it. -/
namespace Go.Proofs.YthfanfnbjldddaaGreat

def Ch.Bf.fault (b : Ch.Bf) : Int := if !Ch.inB b.k 0 99 || !Ch.inB b.v 0 9999 then 3 else if !b.h && b.v != 0 then 1 else 0
def Ch.befOne : List Ch.Bf → Int
  | [] => 0
  | b :: bs => if b.fault != 0 then b.fault else Ch.befOne bs
def Ch.befFault (bs : List Ch.Bf) : Int := if 40 < bs.length then 2 else Ch.befOne bs
theorem Ch.bef_big {bs : List Ch.Bf} (h : 40 < bs.length) : Ch.befFault bs = 2 := by rw [Ch.befFault, if_pos h]
theorem Ch.bef_few {bs : List Ch.Bf} (h : bs.length ≤ 40) : Ch.befFault bs = Ch.befOne (bs.drop 0) := by rw [Ch.befFault, if_neg (by omega), List.drop_zero]
theorem Ch.bef_drop {bs : List Ch.Bf} {k : Nat} (h : k < bs.length) : bs.drop k = bs.getD k Ch.Bf.zero :: bs.drop (k + 1) := by
  rw [List.drop_eq_getElem_cons h]; simp [List.getD, h]
theorem Ch.bef_at {bs : List Ch.Bf} {k : Nat} (h : k < bs.length) (hf : ((bs.getD k Ch.Bf.zero).fault != 0) = true) : Ch.befOne (bs.drop k) = (bs.getD k Ch.Bf.zero).fault := by
  rw [Ch.bef_drop h, Ch.befOne, if_pos hf]
theorem Ch.bef_on {bs : List Ch.Bf} {k : Nat} (h : k < bs.length) (hf : ((bs.getD k Ch.Bf.zero).fault != 0) = false) : Ch.befOne (bs.drop k) = Ch.befOne (bs.drop (k + 1)) := by
  rw [Ch.bef_drop h, Ch.befOne, if_neg (by rw [hf]; exact Bool.false_ne_true)]
theorem Ch.bef_end {bs : List Ch.Bf} {k : Nat} (h : bs.length ≤ k) : Ch.befOne (bs.drop k) = 0 := by
  rw [List.drop_of_length_le h]; rfl
theorem Ch.bef_ok {bs : List Ch.Bf} (h : Ch.befOne bs = 0) : ∀ b ∈ bs, b.fault = 0 := by
  induction bs with
  | nil => intro b hb; cases hb
  | cons c bs ih =>
    rw [Ch.befOne] at h
    by_cases hc : (c.fault != 0) = true
    · rw [if_pos hc] at h; simp [h] at hc
    · rw [if_neg hc] at h
      intro b hb
      rcases List.mem_cons.1 hb with rfl | hb
      · simpa using hc
      · exact ih h b hb

/-- What a key has in leaves: nothing where there is no row, or a ghost. -/
def Ch.has (ls : List (List Ch.Row)) (key : Int) : Option Int :=
  match Ch.findR ls key with
  | some r => if r.g then none else some r.v
  | none => none
def Ch.bf (key : Int) : Option Int → Ch.Bf
  | some v => ⟨key, true, v⟩
  | none => ⟨key, false, 0⟩
def Ch.bfOf (ls : List (List Ch.Row)) (key : Int) : Ch.Bf := if Ch.asked ls key != 0 then Ch.Bf.zero else Ch.bf key (Ch.has ls key)
def Ch.valR (ls : List (List Ch.Row)) (key : Int) : Int × Int :=
  if Ch.asked ls key != 0 then (Ch.asked ls key, 0) else match Ch.has ls key with
    | some v => (0, v)
    | none => (4, 0)
theorem Ch.bfOf_code {ls : List (List Ch.Row)} {key : Int} (h : (Ch.asked ls key != 0) = true) : Ch.bfOf ls key = Ch.Bf.zero := by rw [Ch.bfOf, if_pos h]
theorem Ch.bfOf_ok {ls : List (List Ch.Row)} {key : Int} (h : (Ch.asked ls key != 0) = false) : Ch.bfOf ls key = Ch.bf key (Ch.has ls key) := by rw [Ch.bfOf, if_neg (by simp [h])]
theorem Ch.valR_code {ls : List (List Ch.Row)} {key : Int} (h : (Ch.asked ls key != 0) = true) : Ch.valR ls key = (Ch.asked ls key, 0) := by rw [Ch.valR, if_pos h]
theorem Ch.valR_none {ls : List (List Ch.Row)} {key : Int} (h : (Ch.asked ls key != 0) = false) (hf : Ch.has ls key = none) : Ch.valR ls key = (4, 0) := by rw [Ch.valR, if_neg (by simp [h]), hf]
theorem Ch.valR_some {ls : List (List Ch.Row)} {key v : Int} (h : (Ch.asked ls key != 0) = false) (hf : Ch.has ls key = some v) : Ch.valR ls key = (0, v) := by rw [Ch.valR, if_neg (by simp [h]), hf]
theorem Ch.has_none {ls : List (List Ch.Row)} {key : Int} (h : Ch.findR ls key = none) : Ch.has ls key = none := by rw [Ch.has, h]
theorem Ch.has_ghost {ls : List (List Ch.Row)} {key : Int} {rk rv : Int} (h : Ch.findR ls key = some ⟨rk, rv, true⟩) : Ch.has ls key = none := by rw [Ch.has, h]; rfl
theorem Ch.has_row {ls : List (List Ch.Row)} {key : Int} {rk rv : Int} (h : Ch.findR ls key = some ⟨rk, rv, false⟩) : Ch.has ls key = some rv := by rw [Ch.has, h]; rfl

/-- Rows one by one: the first fault; then whether their keys rise. -/
def Ch.rowsOne : List Ch.Row → Int
  | [] => 0
  | r :: rs => if r.fault != 0 then r.fault else Ch.rowsOne rs
def Ch.risesK (rs : List Ch.Row) : Bool := decide (rs.Pairwise (fun a b => a.k < b.k))
def Ch.mapOf (rs : List Ch.Row) : List Ch.Row := rs.filter (fun r => !r.g)
def Ch.mapR (rs : List Ch.Row) : Int × List Ch.Row :=
  if 240 < rs.length then (2, []) else if Ch.rowsOne rs != 0 then (Ch.rowsOne rs, []) else if Ch.risesK rs then (0, Ch.mapOf rs) else (1, [])
end Go.Proofs.YthfanfnbjldddaaGreat


/- MapOfRows of the program and of the model. -/
namespace Go.Proofs.YthfanfnbjldddaaGreat
open Go.RowKit

/-! Plain -/
/-- Rows one by one: the first fault. -/
def Ch.eachF : List Ch.Row → Int
  | [] => 0
  | r :: rs => if r.fault != 0 then r.fault else Ch.eachF rs
def Ch.mapF (rs : List Ch.Row) : Int := if 240 < rs.length then 2 else if Ch.eachF rs != 0 then Ch.eachF rs else Ch.rise rs
def Ch.noGhost (rs : List Ch.Row) : List Ch.Row := rs.filter (fun r => !r.g)
def Ch.mapRR (rs : List Ch.Row) : Int × List Ch.Row := if Ch.mapF rs != 0 then (Ch.mapF rs, []) else (0, Ch.noGhost rs)
theorem Ch.row_drop {rs : List Ch.Row} {k : Nat} (h : k < rs.length) : rs.drop k = rs.getD k Ch.Row.zero :: rs.drop (k + 1) := by
  rw [List.drop_eq_getElem_cons h]; simp [List.getD, h]
theorem Ch.each_at {rs : List Ch.Row} {k : Nat} (h : k < rs.length) (hf : ((rs.getD k Ch.Row.zero).fault != 0) = true) : Ch.eachF (rs.drop k) = (rs.getD k Ch.Row.zero).fault := by
  rw [Ch.row_drop h, Ch.eachF, if_pos hf]
theorem Ch.each_on {rs : List Ch.Row} {k : Nat} (h : k < rs.length) (hf : ((rs.getD k Ch.Row.zero).fault != 0) = false) : Ch.eachF (rs.drop k) = Ch.eachF (rs.drop (k + 1)) := by
  rw [Ch.row_drop h, Ch.eachF, if_neg (by rw [hf]; exact Bool.false_ne_true)]
theorem Ch.each_end {rs : List Ch.Row} {k : Nat} (h : rs.length ≤ k) : Ch.eachF (rs.drop k) = 0 := by
  rw [List.drop_of_length_le h]; rfl
theorem Ch.each_ok {rs : List Ch.Row} (h : Ch.eachF rs = 0) : ∀ r ∈ rs, r.fault = 0 := by
  induction rs with
  | nil => intro b hb; cases hb
  | cons c bs ih =>
    rw [Ch.eachF] at h
    by_cases hc : (c.fault != 0) = true
    · rw [if_pos hc] at h; simp [h] at hc
    · rw [if_neg hc] at h
      intro b hb
      rcases List.mem_cons.1 hb with rfl | hb
      · simpa using hc
      · exact ih h b hb
theorem Ch.each_zero {rs : List Ch.Row} (h : ∀ r ∈ rs, r.fault = 0) : Ch.eachF rs = 0 := by
  induction rs with
  | nil => rfl
  | cons c bs ih =>
    rw [Ch.eachF, h c (List.mem_cons_self ..)]
    exact ih (fun r hr => h r (List.mem_cons_of_mem _ hr))
theorem Ch.each_getD {rs : List Ch.Row} (h : Ch.eachF rs = 0) (k : Nat) (hk : k < rs.length) : ((rs.getD k Ch.Row.zero).fault != 0) = false := by
  have : rs.getD k Ch.Row.zero ∈ rs := by simp [List.getD, hk]
  rw [Ch.each_ok h _ this]; rfl
theorem Ch.rise_two {rs : List Ch.Row} {p : Option Int} (h : ∀ r ∈ rs, r.fault = 0) : Ch.riseFrom p rs = 0 ∨ Ch.riseFrom p rs = 1 := by
  induction rs generalizing p with
  | nil => left; cases p <;> rfl
  | cons r rs ih =>
    rw [Ch.riseFrom_cons, h r (List.mem_cons_self ..)]
    by_cases hl : Ch.low p r.k = true
    · right; simp [hl]
    · simp only [hl]
      exact ih (fun x hx => h x (List.mem_cons_of_mem _ hx))
theorem Ch.mapF_many {rs : List Ch.Row} (h : 240 < rs.length) : Ch.mapF rs = 2 := by rw [Ch.mapF, if_pos h]
theorem Ch.mapF_each {rs : List Ch.Row} (h : ¬ 240 < rs.length) (hf : (Ch.eachF rs != 0) = true) : Ch.mapF rs = Ch.eachF rs := by rw [Ch.mapF, if_neg h, if_pos hf]
theorem Ch.mapF_rise {rs : List Ch.Row} (h : ¬ 240 < rs.length) (hf : Ch.eachF rs = 0) : Ch.mapF rs = Ch.rise rs := by rw [Ch.mapF, if_neg h, hf]; rfl
theorem Ch.mapRR_code {rs : List Ch.Row} {c : Int} (h : Ch.mapF rs = c) (hc : (c != 0) = true) : Ch.mapRR rs = (c, []) := by rw [Ch.mapRR, h, if_pos hc]
theorem Ch.mapRR_ok {rs : List Ch.Row} (h : Ch.mapF rs = 0) : Ch.mapRR rs = (0, Ch.noGhost rs) := by rw [Ch.mapRR, h]; rfl
theorem Ch.noGhost_yes {rs : List Ch.Row} {k : Nat} (h : k < rs.length) (hin : (rs.getD k Row.zero).g = false) : Ch.noGhost (rs.take (k + 1)) = Ch.noGhost (rs.take k) ++ [rs.getD k Row.zero] := by
  rw [take_snoc rs Row.zero k h]; generalize rs.getD k Row.zero = r at *; unfold Ch.noGhost; rw [List.filter_append]; simp [hin]
theorem Ch.noGhost_no {rs : List Ch.Row} {k : Nat} (h : k < rs.length) (hin : (rs.getD k Row.zero).g = true) : Ch.noGhost (rs.take (k + 1)) = Ch.noGhost (rs.take k) := by
  rw [take_snoc rs Row.zero k h]; generalize rs.getD k Row.zero = r at *; unfold Ch.noGhost; rw [List.filter_append]; simp [hin]
theorem Ch.noGhost_len (rs : List Ch.Row) : (Ch.noGhost rs).length ≤ rs.length := List.length_filter_le _ _
theorem Ch.mapF_len {rs : List Ch.Row} (h : Ch.mapF rs = 0) : rs.length ≤ 240 := by
  unfold Ch.mapF at h
  by_cases hb : 240 < rs.length
  · rw [if_pos hb] at h; omega
  · omega

/-! Blocks -/
theorem rowTwo {W : World} {g : Nat} {t : TypeId} {u0 u1 : Value} (h : W.heap[g]? = some (.cells #[u0, u1] t (0, 0))) :
    W.cell? ⟨g, 0, none⟩ = some u0 ∧ W.cell? ⟨g, 1, none⟩ = some u1 ∧ W.frozen? ⟨g, 0, none⟩ = false ∧ W.frozen? ⟨g, 1, none⟩ = false :=
  ⟨cell_of_row _ _ _ _ _ _ h, cell_of_row _ _ _ _ _ _ h, by simp [World.frozen?, h], by simp [World.frozen?, h]⟩
theorem own_apart {w : World} {base : Nat} {e : TypeId} {size : Nat} {v : Value} {n : Nat} {xs : List Value} (h : w.ownsRow base e size v n xs) {b : Nat} (hb : b < base) : v.ownBlock ≠ some b := fun e => by
  have := (owns_lt h b e).1
  omega
theorem block_below {w w' : World} (hb : Below w.heap.size w w') {b : Nat} {o : Obj} (h : w.heap[b]? = some o) : w'.heap[b]? = some o :=
  (hb.block b (Array.getElem?_eq_some_iff.1 h).1).trans h
theorem block_grown {w w' : World} {row : Option Nat} {b : Nat} {o : Obj} (hg : w.grownBy w' row) (h : w.heap[b]? = some o) (hne : row ≠ some b) : w'.heap[b]? = some o :=
  (hg.block b (Array.getElem?_eq_some_iff.1 h).1 (fun e => hne e.symm)).trans h

/-! The program -/
/-! The model -/
set_option maxHeartbeats 1600000 in
theorem l8Map_any (a : Option Addr) (n cap : Nat) (rs : List Ch.Row) (w : World) (h : CellsAt w a (n * 3) (rcells rs)) (hn : n ≤ 240) :
    Calls Tryz.prog 52 #[.slice a n cap] w fun e w' => ∃ a' m c', e = .returned (.slice a' m c') ∧ m ≤ 240 ∧ w'.ownsRow w.heap.size 53 3 (.slice a' m c') m (rcells (Ch.noGhost rs)) ∧ Below w.heap.size w w' := by
  have HL := h.rlen
  have o0 := empty_rows w w.heap.size (Nat.le_refl _)
  have b0 : Below w.heap.size w (w.alloc (.cells #[] 53)) := (Below.refl _ _).alloc (Nat.le_refl _) _
  go_enter Tryz.func52, Tryz.ntmps52
  go_wp2
  go_loopw [3, 4] (fun q i wr => ∃ (k m : Nat) (a' : Option Addr) (c' : Nat), k ≤ n ∧ m ≤ k ∧ i = .int .i64 k ∧ q = .slice a' m c' ∧ wr.ownsRow w.heap.size 53 3 (.slice a' m c') m (rcells (Ch.noGhost (rs.take k))) ∧ Below w.heap.size w wr) (fun _ i _ => n - (intOf i).toNat)
  case atStart => exact ⟨0, 0, _, _, Nat.zero_le _, Nat.le_refl _, rfl, rfl, by simpa [Ch.noGhost] using o0, b0⟩
  case round =>
    obtain ⟨k, m, a', c', hk, hmk, rfl, rfl, own, hB⟩ := hrel
    by_cases hlt : k < n
    · have hkl : k < rs.length := by have := HL.out; omega
      have HY := hid (fun he => Ch.noGhost_yes hkl he)
      have HN := hid (fun he => Ch.noGhost_no hkl he)
      obtain ⟨b, off, rfl, q0, q1, q2⟩ := (h.below hB).row hlt
      have hbl := lt_of_cell q0
      generalize rs.getD k Ch.Row.zero = r at *
      obtain ⟨rk, rv, rg⟩ := r
      simp only at q0 q1 q2 HY HN
      generalize Ch.noGhost (rs.take k) = zs at *
      have hsum : m + 1 ≤ 2097152 := by omega
      cases rg
      · replace HY := hid (HY.out rfl)
        clear HN
        have bA : ∀ o, Below wr.heap.size wr (wr.alloc o) := fun o => (Below.refl _ _).alloc (Nat.le_refl _) _
        have hwB := hB.size
        go_wp2_with (at_builtin; go_must (refine wpList_appG (.tmp 18) (.tmp 23) w.heap.size (.slice a' m c') m zs 1 [⟨rk, rv, false⟩] hsum (by omega) ?_ ?_ ?_ ?_ ?_ ?_ ?_; exact rfl; exact rfl; exact rfl; exact ⟨_, _, rfl, new_row (r := ⟨rk, rv, false⟩) rfl⟩; exact owns_below own (bA _); (focus (simp; omega)); intro a3 c3 w3 own3 gr3 at3))
        go_roundw
        case rel =>
          refine ⟨k + 1, m + 1, a3, c3, by omega, by omega, by go_num, rfl, by rw [HY.out]; exact own3, ?_⟩
          exact (hB.alloc hB.size _).grown gr3 (by simp; omega) (fun g hg => (owns_lt own g hg).1)
        case measure => simp [intOf]; omega
      · replace HN := hid (HN.out rfl)
        clear HY
        go_wp2
        go_roundw
        case rel => exact ⟨k + 1, m, a', c', by omega, by omega, by go_num, rfl, by rw [HN.out]; exact own, hB⟩
        case measure => simp [intOf]; omega
    · obtain rfl : k = n := by omega
      have HWF : Hid (rs.take k = rs) := by have := HL.out; show _ = _; rw [this]; exact List.take_length
      rw [HWF.out] at own
      go_wp2
      go_ret
      exact ⟨a', m, c', rfl, by omega, own, hB⟩

end Go.Proofs.YthfanfnbjldddaaGreat


/- Plain facts of chapter 9: pairs of an index, their faults, their order. No Go in it. -/
namespace Go.Proofs.YthfanfnbjldddaaGreat.Ch

def ixAt (ps : List Hold) (k : Nat) : Int :=
  if !inB (ps.getD k Hold.zero).t 0 9999 || !inB (ps.getD k Hold.zero).m 0 99 then 3 else if decide (0 < k) && !ltE (ps.getD (k - 1) Hold.zero) (ps.getD k Hold.zero) then 1 else 0
def ixFrom (ps : List Hold) : Nat → Nat → Int
  | 0, _ => 0
  | f + 1, k => if ixAt ps k != 0 then ixAt ps k else ixFrom ps f (k + 1)
def ixRest (ps : List Hold) (k : Nat) : Int := ixFrom ps (ps.length - k) k
def keysOf (ps : List Hold) : List Int := ps.map (·.m)
def ixDup (ps : List Hold) : Bool := !decide (keysOf ps).Nodup
def ixFault (ps : List Hold) : Int := if 240 < ps.length then 2 else if ixRest ps 0 != 0 then ixRest ps 0 else if ixDup ps then 7 else 0
theorem ix_big {ps : List Hold} (h : 240 < ps.length) : ixFault ps = 2 := by rw [ixFault, if_pos h]
theorem ix_at {ps : List Hold} {k : Nat} (h : k < ps.length) (hf : (ixAt ps k != 0) = true) : ixRest ps k = ixAt ps k := by
  unfold ixRest
  rw [show ps.length - k = (ps.length - (k + 1)) + 1 by omega, ixFrom, if_pos hf]
theorem ix_on {ps : List Hold} {k : Nat} (h : k < ps.length) (hf : (ixAt ps k != 0) = false) : ixRest ps k = ixRest ps (k + 1) := by
  unfold ixRest
  rw [show ps.length - k = (ps.length - (k + 1)) + 1 by omega, ixFrom, if_neg (by rw [hf]; exact Bool.false_ne_true)]
theorem ix_end {ps : List Hold} {k : Nat} (h : ps.length ≤ k) : ixRest ps k = 0 := by
  unfold ixRest
  rw [show ps.length - k = 0 by omega, ixFrom]
theorem ix_code {ps : List Hold} {c : Int} (h : ps.length ≤ 240) (hr : ixRest ps 0 = c) (hc : (c != 0) = true) : ixFault ps = c := by
  rw [ixFault, if_neg (by omega), hr, if_pos hc]
theorem ix_last {ps : List Hold} (h : ps.length ≤ 240) (hr : ixRest ps 0 = 0) : ixFault ps = if ixDup ps then 7 else 0 := by
  rw [ixFault, if_neg (by omega), hr, if_neg (by decide)]
theorem ix_taken {ps : List Hold} (h : ps.length ≤ 240) (hr : ixRest ps 0 = 0) (hd : ixDup ps = true) : ixFault ps = 7 := by
  rw [ix_last h hr, hd]; rfl
theorem ix_fine {ps : List Hold} (h : ps.length ≤ 240) (hr : ixRest ps 0 = 0) (hd : ixDup ps = false) : ixFault ps = 0 := by
  rw [ix_last h hr, hd]; rfl
theorem ixAt_range {ps : List Hold} {k : Nat} (h : (!inB (ps.getD k Hold.zero).t 0 9999 || !inB (ps.getD k Hold.zero).m 0 99) = true) : ixAt ps k = 3 := by
  rw [ixAt, if_pos h]
theorem ixAt_form {ps : List Hold} {k : Nat} (h : (!inB (ps.getD k Hold.zero).t 0 9999 || !inB (ps.getD k Hold.zero).m 0 99) = false) (h0 : 0 < k) (hl : ltE (ps.getD (k - 1) Hold.zero) (ps.getD k Hold.zero) = false) : ixAt ps k = 1 := by
  rw [ixAt, if_neg (by rw [h]; exact Bool.false_ne_true), if_pos (by rw [hl]; simpa using h0)]
theorem ixAt_first {ps : List Hold} {k : Nat} (h : (!inB (ps.getD k Hold.zero).t 0 9999 || !inB (ps.getD k Hold.zero).m 0 99) = false) (h0 : k = 0) : ixAt ps k = 0 := by
  rw [ixAt, if_neg (by rw [h]; exact Bool.false_ne_true), if_neg (by subst h0; simp)]
theorem ixAt_fine {ps : List Hold} {k : Nat} (h : (!inB (ps.getD k Hold.zero).t 0 9999 || !inB (ps.getD k Hold.zero).m 0 99) = false) (hl : ltE (ps.getD (k - 1) Hold.zero) (ps.getD k Hold.zero) = true) : ixAt ps k = 0 := by
  rw [ixAt, if_neg (by rw [h]; exact Bool.false_ne_true), if_neg (by rw [hl]; simp)]
theorem ixAt_zero {ps : List Hold} {k : Nat} (h : ixAt ps k = 0) : inB (ps.getD k Hold.zero).t 0 9999 = true ∧ inB (ps.getD k Hold.zero).m 0 99 = true ∧ (0 < k → ltE (ps.getD (k - 1) Hold.zero) (ps.getD k Hold.zero) = true) := by
  unfold ixAt at h
  by_cases h1 : (!inB (ps.getD k Hold.zero).t 0 9999 || !inB (ps.getD k Hold.zero).m 0 99) = true
  · rw [if_pos h1] at h; cases h
  · rw [if_neg h1] at h
    by_cases h2 : (decide (0 < k) && !ltE (ps.getD (k - 1) Hold.zero) (ps.getD k Hold.zero)) = true
    · rw [if_pos h2] at h; cases h
    · simp only [Bool.or_eq_true, Bool.not_eq_true', not_or, Bool.not_eq_false] at h1
      refine ⟨h1.1, h1.2, fun hk => ?_⟩
      cases hl : ltE (ps.getD (k - 1) Hold.zero) (ps.getD k Hold.zero)
      · exact absurd (by rw [hl]; simpa using hk) h2
      · rfl
theorem ixRest_all {ps : List Hold} (h : ∀ k, k < ps.length → ixAt ps k = 0) : ∀ f k, k + f = ps.length → ixFrom ps f k = 0 := by
  intro f
  induction f with
  | zero => intro k _; rfl
  | succ f ih =>
    intro k hk
    rw [ixFrom, h k (by omega), if_neg (by decide)]
    exact ih (k + 1) (by omega)
theorem ixFrom_zero {ps : List Hold} : ∀ f k, k + f = ps.length → ixFrom ps f k = 0 → ∀ j, k ≤ j → j < ps.length → ixAt ps j = 0 := by
  intro f
  induction f with
  | zero => intro k hk _ j h1 h2; omega
  | succ f ih =>
    intro k hk h j h1 h2
    rw [ixFrom] at h
    by_cases hc : (ixAt ps k != 0) = true
    · rw [if_pos hc] at h; rw [h] at hc; cases hc
    · rw [if_neg hc] at h
      by_cases he : j = k
      · subst he; simpa using hc
      · exact ih (k + 1) (by omega) h j (by omega) h2
theorem adj_sort {ps : List Hold} (h : ∀ k, k + 1 < ps.length → ltE (ps.getD k Hold.zero) (ps.getD (k + 1) Hold.zero) = true) : SortE ps := by
  unfold SortE
  induction ps with
  | nil => exact List.Pairwise.nil
  | cons x l ih =>
    have hl : l.Pairwise fun a b => ltE a b = true := ih fun k hk => by
      have := h (k + 1) (by simpa using hk)
      simpa using this
    refine List.Pairwise.cons (fun y hy => ?_) hl
    cases l with
    | nil => cases hy
    | cons z l =>
      have h0 : ltE x z = true := by simpa using h 0 (by simp)
      rcases List.mem_cons.1 hy with rfl | hy
      · exact h0
      · exact ltE_trans h0 ((List.pairwise_cons.1 hl).1 y hy)
/-- A right index. -/
structure IxGood (ps : List Hold) : Prop where
  len : ps.length ≤ 240
  val : ∀ p ∈ ps, inB p.t 0 9999 = true
  key : ∀ p ∈ ps, inB p.m 0 99 = true
  sort : SortE ps
  nd : (keysOf ps).Nodup
theorem getD_mem' {ps : List Hold} {k : Nat} (h : k < ps.length) : ps.getD k Hold.zero ∈ ps := by simp [List.getD, h]
theorem mem_getD {ps : List Hold} {p : Hold} (h : p ∈ ps) : ∃ k, k < ps.length ∧ ps.getD k Hold.zero = p := by
  obtain ⟨k, hk, rfl⟩ := List.getElem_of_mem h
  exact ⟨k, hk, by simp [List.getD, hk]⟩
theorem ix_good {ps : List Hold} (h : ixFault ps = 0) : IxGood ps := by
  unfold ixFault at h
  by_cases h1 : 240 < ps.length
  · rw [if_pos h1] at h; cases h
  rw [if_neg h1] at h
  by_cases h2 : (ixRest ps 0 != 0) = true
  · rw [if_pos h2] at h; rw [h] at h2; cases h2
  rw [if_neg h2] at h
  by_cases h3 : ixDup ps = true
  · rw [if_pos h3] at h; cases h
  have hz : ∀ j, j < ps.length → ixAt ps j = 0 := fun j hj => ixFrom_zero (ps.length - 0) 0 (by omega) (by simpa [ixRest] using h2) j (Nat.zero_le _) hj
  refine ⟨by omega, fun p hp => ?_, fun p hp => ?_, adj_sort fun k hk => ?_, by simpa [ixDup] using h3⟩
  · obtain ⟨k, hk, rfl⟩ := mem_getD hp
    exact (ixAt_zero (hz k hk)).1
  · obtain ⟨k, hk, rfl⟩ := mem_getD hp
    exact (ixAt_zero (hz k hk)).2.1
  · have := (ixAt_zero (hz (k + 1) hk)).2.2 (by omega)
    simpa using this
theorem good_ix {ps : List Hold} (h : IxGood ps) : ixFault ps = 0 := by
  have hz : ∀ k, k < ps.length → ixAt ps k = 0 := fun k hk => by
    have hm := getD_mem' hk
    have hr : (!inB (ps.getD k Hold.zero).t 0 9999 || !inB (ps.getD k Hold.zero).m 0 99) = false := by rw [h.val _ hm, h.key _ hm]; rfl
    by_cases h0 : k = 0
    · exact ixAt_first hr h0
    · refine ixAt_fine hr ?_
      have := List.pairwise_iff_getElem.1 h.sort (k - 1) k (by omega) hk (by omega)
      simpa [List.getD, hk, show k - 1 < ps.length by omega] using this
  refine ix_fine h.len (ixRest_all hz _ 0 (by omega)) ?_
  simpa [ixDup] using h.nd
/-! two of one key -/
theorem keys_next {ps : List Hold} {i : Nat} (hi : i < ps.length) : keysOf (ps.take (i + 1)) = keysOf (ps.take i) ++ [(ps.getD i Hold.zero).m] := by
  unfold keysOf
  rw [take_snoc ps Hold.zero i hi]; simp
theorem mem_keys {ps : List Hold} {i : Nat} {x : Int} (hi : i ≤ ps.length) : x ∈ keysOf (ps.take i) ↔ ∃ j, j < i ∧ (ps.getD j Hold.zero).m = x := by
  unfold keysOf
  rw [List.mem_map]
  constructor
  · rintro ⟨p, hp, rfl⟩
    obtain ⟨j, hj, rfl⟩ := List.getElem_of_mem hp
    have hj' : j < i := by simp at hj; omega
    exact ⟨j, hj', by simp [List.getD, show j < ps.length by omega]⟩
  · rintro ⟨j, hj, rfl⟩
    refine ⟨ps.getD j Hold.zero, ?_, rfl⟩
    rw [List.mem_iff_getElem]
    exact ⟨j, by simp; omega, by simp [List.getD, show j < ps.length by omega]⟩
theorem nodup_next {ps : List Hold} {i : Nat} (hi : i < ps.length) (h : (keysOf (ps.take i)).Nodup) (hn : ∀ j, j < i → (ps.getD j Hold.zero).m ≠ (ps.getD i Hold.zero).m) : (keysOf (ps.take (i + 1))).Nodup := by
  rw [keys_next hi, List.nodup_append]
  refine ⟨h, by simp, fun a ha b hb => ?_⟩
  rw [List.mem_singleton] at hb
  obtain ⟨j, hj, rfl⟩ := (mem_keys (by omega)).1 ha
  rw [hb]
  exact hn j hj
theorem nodup_all {ps : List Hold} {i : Nat} (hi : ps.length ≤ i) (h : (keysOf (ps.take i)).Nodup) : ixDup ps = false := by
  rw [List.take_of_length_le hi] at h
  simpa [ixDup] using h
theorem dup_found {ps : List Hold} {k i : Nat} (hk : k < i) (hi : i < ps.length) (h : (ps.getD k Hold.zero).m = (ps.getD i Hold.zero).m) : ixDup ps = true := by
  unfold ixDup
  simp only [Bool.not_eq_true', decide_eq_false_iff_not]
  intro hn
  unfold keysOf at hn
  have := List.pairwise_iff_getElem.1 hn k i (by simp; omega) (by simpa using hi) hk
  simp [List.getD, hi, show k < ps.length by omega] at h
  simp at this
  exact this h
theorem dup_of {ps : List Hold} (h : ¬ (keysOf ps).Nodup) : ixDup ps = true := by simpa [ixDup] using h
theorem nodup_take {ps : List Hold} (h : (keysOf ps).Nodup) (k : Nat) : (keysOf (ps.take k)).Nodup := by
  unfold keysOf at *
  rw [List.map_take]
  exact h.sublist (List.take_sublist _ _)

/-! what is asked of a value -/
def lookL (ps : List Hold) (v : Int) : List Int := (ps.filter fun p => p.t == v).map (·.m)
def lookR (ps : List Hold) (v : Int) : Int × List Int := if ixFault ps != 0 then (ixFault ps, []) else if inB v 0 9999 then (0, lookL ps v) else (3, [])
theorem lookR_code {ps : List Hold} {v c : Int} (h : ixFault ps = c) (hc : (c != 0) = true) : lookR ps v = (c, []) := by rw [lookR, h, if_pos hc]
theorem lookR_range {ps : List Hold} {v : Int} (h : ixFault ps = 0) (hv : inB v 0 9999 = false) : lookR ps v = (3, []) := by
  rw [lookR, h, if_neg (by decide), hv]; rfl
theorem lookR_ok {ps : List Hold} {v : Int} (h : ixFault ps = 0) (hv : inB v 0 9999 = true) : lookR ps v = (0, lookL ps v) := by
  rw [lookR, h, if_neg (by decide), hv]; rfl
theorem lookL_yes {ps : List Hold} {v : Int} {k : Nat} (h : k < ps.length) (hc : ((ps.getD k Hold.zero).t == v) = true) : lookL (ps.take (k + 1)) v = lookL (ps.take k) v ++ [(ps.getD k Hold.zero).m] := by
  unfold lookL
  rw [take_snoc ps Hold.zero k h, List.filter_append, List.map_append]
  generalize ps.getD k Hold.zero = x at *
  rw [List.filter_cons_of_pos (p := fun p : Hold => p.t == v) hc]; rfl
theorem lookL_no {ps : List Hold} {v : Int} {k : Nat} (h : k < ps.length) (hc : ((ps.getD k Hold.zero).t == v) = false) : lookL (ps.take (k + 1)) v = lookL (ps.take k) v := by
  unfold lookL
  rw [take_snoc ps Hold.zero k h, List.filter_append, List.map_append]
  generalize ps.getD k Hold.zero = x at *
  rw [List.filter_cons_of_neg (p := fun p : Hold => p.t == v) (by rw [hc]; simp)]; simp
theorem lookL_len (ps : List Hold) (v : Int) : (lookL ps v).length ≤ ps.length := by unfold lookL; rw [List.length_map]; exact List.length_filter_le _ _

/-! a pair put into its place -/
def insP : List Hold → Hold → List Hold
  | [], e => [e]
  | x :: l, e => if ltE x e then x :: insP l e else e :: x :: l
theorem insP_at {l : List Hold} {e : Hold} {k : Nat} (hk : k ≤ l.length) (h1 : ∀ j, j < k → ltE (l.getD j Hold.zero) e = true) (h2 : k < l.length → ltE (l.getD k Hold.zero) e = false) :
    insP l e = l.take k ++ [e] ++ l.drop k := by
  induction l generalizing k with
  | nil =>
    have : k = 0 := by simpa using hk
    subst this
    simp [insP]
  | cons x l ih =>
    cases k with
    | zero =>
      have hx : ltE x e = false := by simpa using h2 (by simp)
      unfold insP
      rw [hx]
      simp
    | succ k =>
      have hx : ltE x e = true := by simpa using h1 0 (by omega)
      unfold insP
      rw [hx, if_pos rfl, ih (k := k) (by simpa using hk) (fun j hj => by simpa using h1 (j + 1) (by omega)) (fun hl => by simpa using h2 (by simpa using hl))]
      simp
theorem insP_insE {l : List Hold} {e : Hold} (h : e ∉ l) : insP l e = insE l e := by
  induction l with
  | nil => rfl
  | cons x l ih =>
    unfold insP insE
    have hx : sameE x e = false := by
      cases hs : sameE x e
      · rfl
      · exact absurd (by rw [sameE_iff.1 hs]; simp) h
    rw [ih (fun hm => h (List.mem_cons_of_mem _ hm)), hx]
    rfl
theorem insP_len (l : List Hold) (e : Hold) : (insP l e).length = l.length + 1 := by
  induction l with
  | nil => rfl
  | cons x l ih => unfold insP; split <;> simp [ih]

/-! the index of leaves -/
def pairR (r : Row) : Hold := ⟨r.v, r.k⟩
def ixOfL (ls : List (List Row)) : List Hold := sortE ((noGhost ls.flatten).map pairR)
def ixOfR (ls : List (List Row)) : Int × List Hold := if leavesFault ls != 0 then (leavesFault ls, []) else (0, ixOfL ls)
theorem ixOfR_code {ls : List (List Row)} {c : Int} (h : leavesFault ls = c) (hc : (c != 0) = true) : ixOfR ls = (c, []) := by rw [ixOfR, h, if_pos hc]
theorem ixOfR_ok {ls : List (List Row)} (h : leavesFault ls = 0) : ixOfR ls = (0, ixOfL ls) := by rw [ixOfR, h]; rfl
theorem rise_apart {rs : List Row} (h : rs.Pairwise (fun a b => a.k < b.k)) : (rs.map pairR).Nodup := by
  unfold List.Nodup
  rw [List.pairwise_map]
  exact h.imp fun {a b} hab he => by
    have : a.k = b.k := by have := congrArg Hold.m he; simpa [pairR] using this
    omega
theorem pairs_nodup {ls : List (List Row)} (h : leavesFault ls = 0) : ((noGhost ls.flatten).map pairR).Nodup := by
  obtain ⟨_, _, _, hp⟩ := (good_iff ls).1 h
  exact rise_apart (hp.filter _)
theorem nodup_new {l : List Hold} {d : Hold} (h : l.Nodup) {k : Nat} (hk : k < l.length) : l.getD k d ∉ l.take k := by
  intro hm
  obtain ⟨j, hj, he⟩ := List.getElem_of_mem hm
  have hj' : j < k := by simp at hj; omega
  have := List.pairwise_iff_getElem.1 h j k (by omega) hk hj'
  simp [List.getD, hk] at he
  exact this he
/-- What is sorted, each once, is what was put in one by one. -/
theorem perm_sort {xs ys : List Hold} (hn : xs.Nodup) (hp : ys.Perm xs) (hs : ys.Pairwise (fun a b => ltE b a = false)) : ys = sortE xs := by
  refine sort_same ?_ (sortE_sort xs) fun x => ?_
  · have nd : ys.Nodup := hp.nodup_iff.2 hn
    unfold SortE
    refine (hs.and nd).imp ?_
    rintro a b ⟨h1, h2⟩
    exact ltE_total h1 (fun e => h2 e.symm)
  · rw [sortE_mem, hp.mem_iff]
theorem sortE_next {l : List Hold} {k : Nat} (h : l.Nodup) (hk : k < l.length) : insP (sortE (l.take k)) (l.getD k Hold.zero) = sortE (l.take (k + 1)) := by
  rw [take_snoc l Hold.zero k hk, sortE_snoc, insP_insE]
  rw [sortE_mem]
  exact nodup_new h hk

/-! an index that is turned -/
def thereP (ps : List Hold) (key : Int) : Bool := ps.any fun p => p.m == key
def rightP (ps : List Hold) (key v : Int) : Bool := ps.any fun p => p.m == key && p.t == v
def turnL (ps : List Hold) (key : Int) (now : Bf) : List Hold := if now.h then insE (ps.filter fun p => p.m != key) ⟨now.v, key⟩ else ps.filter fun p => p.m != key
def turnF (ps : List Hold) (key : Int) (old now : Bf) : Int :=
  if ixFault ps != 0 then ixFault ps else if befFault [old, now] != 0 then befFault [old, now] else if old.k != key || now.k != key then 1 else
    if old.h && !rightP ps key old.v then 4 else if !old.h && thereP ps key then 7 else 0
def turnR (ps : List Hold) (key : Int) (old now : Bf) : Int × List Hold := if turnF ps key old now != 0 then (turnF ps key old now, []) else (0, turnL ps key now)
theorem turnR_code {ps : List Hold} {key c : Int} {old now : Bf} (h : turnF ps key old now = c) (hc : (c != 0) = true) : turnR ps key old now = (c, []) := by rw [turnR, h, if_pos hc]
theorem turnR_ok {ps : List Hold} {key : Int} {old now : Bf} (h : turnF ps key old now = 0) : turnR ps key old now = (0, turnL ps key now) := by rw [turnR, h]; rfl
end Go.Proofs.YthfanfnbjldddaaGreat.Ch


/- PutRow of the model. -/
namespace Go.Proofs.YthfanfnbjldddaaGreat
open Go.RowKit

theorem Ch.putR_code {ls : List (List Ch.Row)} {r : Ch.Row} (h : (Ch.leavesFault ls != 0) = true) : Ch.putR ls r = (Ch.leavesFault ls, []) := by rw [Ch.putR, if_pos h]
theorem Ch.putR_row {ls : List (List Ch.Row)} {r : Ch.Row} (h : (Ch.leavesFault ls != 0) = false) (hr : (r.fault != 0) = true) : Ch.putR ls r = (r.fault, []) := by rw [Ch.putR, if_neg (by simp [h]), if_pos hr]
theorem Ch.putR_many {ls : List (List Ch.Row)} {r : Ch.Row} (h : (Ch.leavesFault ls != 0) = false) (hr : (r.fault != 0) = false) (hm : 60 < (Ch.put ls r).length) : Ch.putR ls r = (2, []) := by rw [Ch.putR, if_neg (by simp [h]), if_neg (by simp [hr]), if_pos hm]
theorem Ch.putR_ok {ls : List (List Ch.Row)} {r : Ch.Row} (h : (Ch.leavesFault ls != 0) = false) (hr : (r.fault != 0) = false) (hm : ¬ 60 < (Ch.put ls r).length) : Ch.putR ls r = (0, Ch.put ls r) := by rw [Ch.putR, if_neg (by simp [h]), if_neg (by simp [hr]), if_neg hm]

end Go.Proofs.YthfanfnbjldddaaGreat


/- Plain mathematics of chapter 2 (records and logs): no Go in it. -/
namespace Go.Proofs.YthfanfnbjldddaaGreat.Ch

structure Rec where
  kd : Int
  tx : Int
  ky : Int
  hd : Bool
  ol : Int
  hs : Bool
  nw : Int
def Rec.zero : Rec := ⟨0, 0, 0, false, 0, false, 0⟩
def sets (k : Int) : Bool := k == 2 || k == 3
def Rec.fault (r : Rec) : Int :=
  if !inB r.kd 1 5 then 1
  else if !inB r.tx 1 999 || sets r.kd && (!inB r.ky 0 99 || !inB r.ol 0 9999 || !inB r.nw 0 9999) then 3
  else if !sets r.kd && (r.ky != 0 || r.hd || r.hs || r.ol != 0 || r.nw != 0) then 1
  else if !r.hd && r.ol != 0 || !r.hs && r.nw != 0 then 1 else 0
def Rec.flags (r : Rec) : Int := (if r.hd then 1 else 0) + (if r.hs then 2 else 0)
def Rec.more (r : Rec) : List Int := [r.ky, r.flags, r.ol / 256, r.ol % 256, r.nw / 256, r.nw % 256]
def Rec.body (r : Rec) : List Int := [r.kd, r.tx / 256, r.tx % 256] ++ (if sets r.kd then r.more else [])
def Rec.bytes (r : Rec) : List Int := withSum r.body
def Rec.len (r : Rec) : Nat := if sets r.kd then 11 else 5
theorem Rec.len_bd (r : Rec) : 5 ≤ r.len ∧ r.len ≤ 11 := by unfold Rec.len; split <;> omega
theorem Rec.bytes_len (r : Rec) : r.bytes.length = r.len := by
  unfold Rec.bytes withSum Rec.body Rec.len
  cases h : sets r.kd <;> simp [Rec.more]
/-- A record without a fault: what its numbers are. -/
structure Rec.Fit (r : Rec) : Prop where
  kd : 1 ≤ r.kd ∧ r.kd ≤ 5
  tx : 1 ≤ r.tx ∧ r.tx ≤ 999
  ky : 0 ≤ r.ky ∧ r.ky ≤ 99
  ol : 0 ≤ r.ol ∧ r.ol ≤ 9999
  nw : 0 ≤ r.nw ∧ r.nw ≤ 9999
  rest : sets r.kd = false → r.ky = 0 ∧ r.hd = false ∧ r.ol = 0 ∧ r.hs = false ∧ r.nw = 0
theorem Rec.fit {r : Rec} (h : r.fault = 0) : r.Fit := by
  obtain ⟨kd, tx, ky, hd, ol, hs, nw⟩ := r
  simp only [Rec.fault] at h
  by_cases h1 : (!inB kd 1 5) = true
  · rw [if_pos h1] at h; omega
  rw [if_neg h1] at h
  by_cases h2 : (!inB tx 1 999 || sets kd && (!inB ky 0 99 || !inB ol 0 9999 || !inB nw 0 9999)) = true
  · rw [if_pos h2] at h; omega
  rw [if_neg h2] at h
  by_cases h3 : (!sets kd && (ky != 0 || hd || hs || ol != 0 || nw != 0)) = true
  · rw [if_pos h3] at h; omega
  clear h
  cases hs' : sets kd
  · simp [hs'] at h1 h2 h3
    simp [inB] at h1 h2
    obtain ⟨⟨⟨⟨a, b⟩, c⟩, d⟩, e⟩ := h3
    subst a b c d e
    exact ⟨⟨h1.1, h1.2⟩, ⟨h2.1, h2.2⟩, by simp, by simp, by simp, fun _ => ⟨rfl, rfl, rfl, rfl, rfl⟩⟩
  · simp [hs', inB] at h1 h2
    obtain ⟨⟨a, b⟩, ⟨⟨c, d⟩, e, f⟩, g, k⟩ := h2
    refine ⟨⟨h1.1, h1.2⟩, ⟨a, b⟩, ⟨c, d⟩, ⟨e, f⟩, ⟨g, k⟩, fun h => ?_⟩
    simp [hs'] at h
theorem Rec.flags_bd (r : Rec) : 0 ≤ r.flags ∧ r.flags ≤ 3 := by
  unfold Rec.flags; cases r.hd <;> cases r.hs <;> simp
theorem Rec.body_bytes {r : Rec} (h : r.Fit) : AllB r.body := by
  obtain ⟨⟨_, _⟩, ⟨_, _⟩, ⟨_, _⟩, ⟨_, _⟩, ⟨_, _⟩, _⟩ := h
  have := r.flags_bd
  intro z hz
  unfold Rec.body at hz
  cases hs : sets r.kd
  · simp [hs] at hz
    rcases hz with rfl | rfl | rfl <;> omega
  · simp [hs, Rec.more] at hz
    rcases hz with rfl | rfl | rfl | rfl | rfl | rfl | rfl | rfl | rfl <;> omega
theorem Rec.all_bytes {r : Rec} (h : r.Fit) : AllB r.bytes := by
  intro z hz
  unfold Rec.bytes withSum at hz
  rcases List.mem_append.1 hz with hz | hz
  · exact Rec.body_bytes h z hz
  · exact sum_bytes _ z hz

/-- What the bytes at the beginning would be. -/
def unp (zs : List Int) : Rec :=
  if sets (zs.getD 0 0) then ⟨zs.getD 0 0, zs.getD 1 0 * 256 + zs.getD 2 0, zs.getD 3 0, zs.getD 4 0 % 2 == 1, zs.getD 5 0 * 256 + zs.getD 6 0, zs.getD 4 0 / 2 % 2 == 1, zs.getD 7 0 * 256 + zs.getD 8 0⟩
  else ⟨zs.getD 0 0, zs.getD 1 0 * 256 + zs.getD 2 0, 0, false, 0, false, 0⟩
/-- The record at the beginning. -/
def first (zs : List Int) : Option Rec := if (unp zs).fault = 0 ∧ (unp zs).bytes <+: zs then some (unp zs) else none
theorem first_some {zs : List Int} {r : Rec} (h : first zs = some r) : r.fault = 0 ∧ r.bytes <+: zs ∧ unp zs = r := by
  unfold first at h
  split at h
  · next hc => cases h; exact ⟨hc.1, hc.2, rfl⟩
  · cases h
theorem first_len {zs : List Int} {r : Rec} (h : first zs = some r) : 5 ≤ r.len ∧ r.len ≤ zs.length := by
  obtain ⟨_, h2, _⟩ := first_some h
  have := h2.length_le
  rw [r.bytes_len] at this
  exact ⟨r.len_bd.1, this⟩
def readsN : Nat → List Int → List Rec
  | 0, _ => []
  | n + 1, zs => match first zs with
    | none => []
    | some r => r :: readsN n (zs.drop r.len)
def reads (zs : List Int) : List Rec := readsN zs.length zs
theorem readsN_none {n : Nat} {zs : List Int} (h : first zs = none) : readsN n zs = [] := by
  cases n with
  | zero => rfl
  | succ n => simp [readsN, h]
theorem readsN_eq (n : Nat) : ∀ (m : Nat) (zs : List Int), zs.length ≤ n → zs.length ≤ m → readsN n zs = readsN m zs := by
  induction n with
  | zero =>
    intro m zs h _
    have : first zs = none := by
      cases hf : first zs with
      | none => rfl
      | some r => have := first_len hf; omega
    rw [readsN_none this, readsN_none this]
  | succ n ih =>
    intro m zs h hm
    cases hf : first zs with
    | none => rw [readsN_none hf, readsN_none hf]
    | some r =>
      have hl := first_len hf
      cases m with
      | zero => omega
      | succ m =>
        simp only [readsN, hf]
        rw [ih m (zs.drop r.len) (by simp; omega) (by simp; omega)]
theorem reads_none {zs : List Int} (h : first zs = none) : reads zs = [] := readsN_none h
theorem reads_some {zs : List Int} {r : Rec} (h : first zs = some r) : reads zs = r :: reads (zs.drop r.len) := by
  unfold reads
  have hl := first_len h
  obtain ⟨n, hn⟩ : ∃ n, zs.length = n + 1 := ⟨zs.length - 1, by omega⟩
  rw [hn]
  simp only [readsN, h]
  rw [readsN_eq n (zs.drop r.len).length (zs.drop r.len) (by simp; omega) (Nat.le_refl _)]
def lenOf (rs : List Rec) : Nat := (rs.map Rec.len).sum
theorem lenOf_nil : lenOf [] = 0 := rfl
theorem lenOf_cons (r : Rec) (rs : List Rec) : lenOf (r :: rs) = r.len + lenOf rs := rfl
theorem lenOf_append (a b : List Rec) : lenOf (a ++ b) = lenOf a + lenOf b := by simp [lenOf]
def used (zs : List Int) : Nat := lenOf (reads zs)
theorem used_none {zs : List Int} (h : first zs = none) : used zs = 0 := by unfold used; rw [reads_none h]; rfl
theorem used_some {zs : List Int} {r : Rec} (h : first zs = some r) : used zs = r.len + used (zs.drop r.len) := by
  unfold used; rw [reads_some h, lenOf_cons]
theorem used_le (zs : List Int) : used zs ≤ zs.length := by
  suffices H : ∀ n zs, List.length zs ≤ n → used zs ≤ zs.length from H _ zs (Nat.le_refl _)
  intro n
  induction n with
  | zero =>
    intro zs h
    cases hf : first zs with
    | none => rw [used_none hf]; omega
    | some r => have := first_len hf; omega
  | succ n ih =>
    intro zs h
    cases hf : first zs with
    | none => rw [used_none hf]; omega
    | some r =>
      have hl := first_len hf
      have := ih (zs.drop r.len) (by simp; omega)
      rw [used_some hf]
      simp at this
      omega
theorem reads_le (zs : List Int) : 5 * (reads zs).length ≤ used zs := by
  unfold used
  generalize reads zs = rs
  induction rs with
  | nil => simp [lenOf]
  | cons r rs ih => rw [lenOf_cons]; have := r.len_bd; simp; omega
/-- Bytes are torn: nothing of a record that would begin there. -/
theorem getD_prefix {a zs : List Int} (h : a <+: zs) (i : Nat) (hi : i < a.length) : zs.getD i 0 = a.getD i 0 := by
  obtain ⟨t, rfl⟩ := h
  simp [List.getD, List.getElem?_append_left hi]
theorem unp_of_bytes {r : Rec} (h : r.fault = 0) {zs : List Int} (hp : r.bytes <+: zs) : unp zs = r := by
  have f := Rec.fit h
  obtain ⟨kd, tx, ky, hd, ol, hs, nw⟩ := r
  obtain ⟨⟨k0, k1⟩, ⟨t0, t1⟩, ⟨y0, y1⟩, ⟨o0, o1⟩, ⟨n0, n1⟩, rest⟩ := f
  simp only at k0 k1 t0 t1 y0 y1 o0 o1 n0 n1 rest
  have hl := Rec.bytes_len ⟨kd, tx, ky, hd, ol, hs, nw⟩
  have h5 := (Rec.len_bd ⟨kd, tx, ky, hd, ol, hs, nw⟩).1
  have g0 := getD_prefix hp 0 (by omega)
  have g1 := getD_prefix hp 1 (by omega)
  have g2 := getD_prefix hp 2 (by omega)
  have e0 : (Rec.bytes ⟨kd, tx, ky, hd, ol, hs, nw⟩).getD 0 0 = kd := rfl
  have e1 : (Rec.bytes ⟨kd, tx, ky, hd, ol, hs, nw⟩).getD 1 0 = tx / 256 := rfl
  have e2 : (Rec.bytes ⟨kd, tx, ky, hd, ol, hs, nw⟩).getD 2 0 = tx % 256 := rfl
  rw [e0] at g0
  rw [e1] at g1
  rw [e2] at g2
  unfold unp
  rw [g0, g1, g2]
  cases hset : sets kd
  · obtain ⟨rfl, rfl, rfl, rfl, rfl⟩ := rest hset
    simp
    omega
  · have hl11 : (Rec.bytes ⟨kd, tx, ky, hd, ol, hs, nw⟩).length = 11 := by rw [hl]; simp [Rec.len, hset]
    have eb : Rec.bytes ⟨kd, tx, ky, hd, ol, hs, nw⟩ = withSum [kd, tx / 256, tx % 256, ky, Rec.flags ⟨kd, tx, ky, hd, ol, hs, nw⟩, ol / 256, ol % 256, nw / 256, nw % 256] := by
      simp [Rec.bytes, Rec.body, hset, Rec.more]
    have g3 := getD_prefix hp 3 (by omega)
    have g4 := getD_prefix hp 4 (by omega)
    have g5 := getD_prefix hp 5 (by omega)
    have g6 := getD_prefix hp 6 (by omega)
    have g7 := getD_prefix hp 7 (by omega)
    have g8 := getD_prefix hp 8 (by omega)
    rw [eb] at g3 g4 g5 g6 g7 g8
    simp [withSum] at g3 g4 g5 g6 g7 g8
    have t : tx / 256 * 256 + tx % 256 = tx := by omega
    have o : ol / 256 * 256 + ol % 256 = ol := by omega
    have n : nw / 256 * 256 + nw % 256 = nw := by omega
    simp [List.getD, g3, g4, g5, g6, g7, g8, t, o, n, Rec.flags]
    cases hd <;> cases hs <;> simp
theorem first_of_bytes {r : Rec} (h : r.fault = 0) {zs : List Int} (hp : r.bytes <+: zs) : first zs = some r := by
  have e := unp_of_bytes h hp
  unfold first
  rw [e, if_pos ⟨h, hp⟩]
theorem first_append {zs : List Int} {r : Rec} (h : first zs = some r) (t : List Int) : first (zs ++ t) = some r := by
  obtain ⟨h1, h2, _⟩ := first_some h
  exact first_of_bytes h1 (h2.trans (List.prefix_append zs t))
theorem reads_append : ∀ (n : Nat) (zs t : List Int), zs.length ≤ n → used zs = zs.length → reads (zs ++ t) = reads zs ++ reads t := by
  intro n
  induction n with
  | zero =>
    intro zs t h _
    have : zs = [] := List.length_eq_zero_iff.1 (by omega)
    subst this
    have : reads [] = [] := rfl
    rw [this]; simp
  | succ n ih =>
    intro zs t h hu
    cases hf : first zs with
    | none =>
      rw [used_none hf] at hu
      have : zs = [] := List.length_eq_zero_iff.1 (by omega)
      subst this
      have : reads [] = [] := rfl
      rw [this]; simp
    | some r =>
      have hl := first_len hf
      rw [used_some hf] at hu
      rw [reads_some (first_append hf t), reads_some hf]
      have e : (zs ++ t).drop r.len = zs.drop r.len ++ t := by
        rw [List.drop_append]
        simp [show r.len - zs.length = 0 by omega]
      rw [e, ih (zs.drop r.len) t (by simp; omega) (by simp; omega)]
      rfl
theorem reads_bytes {r : Rec} (h : r.fault = 0) (t : List Int) : reads (r.bytes ++ t) = r :: reads t := by
  have := first_of_bytes h (List.prefix_append r.bytes t)
  rw [reads_some this, ← r.bytes_len]
  simp
def walFault (s l : List Int) : Int := if 4000 < s.length + l.length then 2 else if used s ≠ s.length ∨ used l ≠ l.length then 5 else 0
end Go.Proofs.YthfanfnbjldddaaGreat.Ch


/- Plain facts of SetValue. -/
namespace Go.Proofs.YthfanfnbjldddaaGreat

theorem Ch.into_same {r : Ch.Row} {l : List Ch.Row} (hp : l.Pairwise (fun a b => a.k < b.k)) (hm : ∃ x ∈ l, x.k = r.k) : (Ch.into r l).length = l.length := by
  induction l with
  | nil => obtain ⟨x, hx, _⟩ := hm; cases hx
  | cons y l ih =>
    rw [List.pairwise_cons] at hp
    unfold Ch.into
    obtain ⟨x, hx, hk⟩ := hm
    by_cases hy : y.k < r.k
    · rw [if_pos hy]
      rcases List.mem_cons.1 hx with rfl | hx
      · omega
      · simp [ih hp.2 ⟨x, hx, hk⟩]
    · rw [if_neg hy]
      have hyk : y.k = r.k := by
        rcases List.mem_cons.1 hx with rfl | hx
        · exact hk
        · have := hp.1 x hx; omega
      have h1 : Ch.notK r.k y = false := by simp [Ch.notK, hyk]
      have h2 : l.filter (Ch.notK r.k) = l := List.filter_eq_self.2 fun z hz => by
        have := hp.1 z hz
        simp [Ch.notK]; omega
      rw [List.filter_cons_of_neg (by rw [h1]; exact Bool.false_ne_true), h2]
      simp
theorem Ch.into_grow (r : Ch.Row) (l : List Ch.Row) : (Ch.into r l).length ≤ l.length + 1 := by
  induction l with
  | nil => simp [Ch.into]
  | cons y l ih =>
    unfold Ch.into
    split
    · simp; exact ih
    · have := List.length_filter_le (Ch.notK r.k) (y :: l)
      simp at this ⊢; exact this

theorem Ch.flat_len3 (ls : List (List Ch.Row)) (i : Nat) (h : i < ls.length) (m : List (List Ch.Row)) : (ls.take i ++ m ++ ls.drop (i + 1)).flatten.length + (ls.getD i []).length = ls.flatten.length + m.flatten.length := by
  have e : ls = ls.take i ++ [ls.getD i []] ++ ls.drop (i + 1) := by
    rw [← Ch.take_snoc ls [] i h, List.take_append_drop]
  have : ls.flatten.length = (ls.take i).flatten.length + (ls.getD i []).length + (ls.drop (i + 1)).flatten.length := by
    conv => lhs; rw [e]
    simp
    omega
  simp at this ⊢
  omega

/-- A row that is there is put in its place: no leaf comes to it. -/
theorem Ch.put_stays {ls : List (List Ch.Row)} (hg : Ch.leavesFault ls = 0) (r : Ch.Row) (hf : (Ch.findR ls r.k).isSome = true) : (Ch.put ls r).length = ls.length := by
  obtain ⟨x, hx⟩ := Option.isSome_iff_exists.1 hf
  unfold Ch.findR at hx
  have hxm := List.mem_of_find?_eq_some hx
  have hxk : x.k = r.k := by have := List.find?_some hx; simpa using this
  obtain ⟨_, h4, _, hp⟩ := (Ch.good_iff ls).1 hg
  have hl := Ch.into_same (r := r) hp ⟨x, hxm, hxk⟩
  rw [← Ch.put_flat hg] at hl
  have hne : ls.length ≠ 0 := by
    intro h0
    have : ls = [] := List.eq_nil_of_length_eq_zero h0
    subst this
    simp at hxm
  have hfi : Ch.forAt ls r.k ls.length < ls.length := Ch.forAt_lt (by omega)
  unfold Ch.put at hl ⊢
  rw [if_neg hne] at hl ⊢
  generalize Ch.forAt ls r.k ls.length = i at *
  have h3 := Ch.flat_len3 ls i hfi (Ch.halves (Ch.into r (ls.getD i [])))
  rw [Ch.halves_flat] at h3
  have hi4 : (ls.getD i []).length ≤ 4 := (h4 (ls.getD i []) (by simp [List.getD, hfi])).2
  have hlen : (Ch.into r (ls.getD i [])).length ≤ 4 := by omega
  unfold Ch.halves
  rw [if_pos hlen]
  simp
  omega

/-- What is asked ahead of a change. -/
def Ch.setF (ls : List (List Ch.Row)) (tx : Int) (bs : List Ch.Bf) : Int := if Ch.leavesFault ls != 0 then Ch.leavesFault ls else if Ch.inB tx 1 999 then Ch.befFault bs else 3
theorem Ch.bef_single (b : Ch.Bf) : Ch.befFault [b] = b.fault := by
  unfold Ch.befFault
  rw [if_neg (by simp)]
  unfold Ch.befOne
  cases h : (b.fault != 0)
  · have : b.fault = 0 := by simpa using h
    rw [this]; rfl
  · simp
/-- The leaves behind a change: a code, and the leaves. -/
def Ch.setLs (ls : List (List Ch.Row)) (key : Int) (has : Bool) (v : Int) : Int × List (List Ch.Row) :=
  if has then (if 60 < (Ch.put ls ⟨key, v, false⟩).length then (2, []) else (0, Ch.put ls ⟨key, v, false⟩))
  else if (Ch.findR ls key).isSome then (0, Ch.put ls ⟨key, 0, true⟩) else (0, ls)
/-- The record of a change. -/
def Ch.setRec (kd : Int) (ls : List (List Ch.Row)) (tx key : Int) (has : Bool) (v : Int) : Ch.Rec := ⟨kd, tx, key, (Ch.bf key (Ch.has ls key)).h, (Ch.bf key (Ch.has ls key)).v, has, v⟩
/-- What SetValue answers. -/
def Ch.setR (ls : List (List Ch.Row)) (tx key : Int) (has : Bool) (v : Int) : Int × List (List Ch.Row) × List Ch.Rec :=
  if Ch.setF ls tx [⟨key, has, v⟩] != 0 then (Ch.setF ls tx [⟨key, has, v⟩], [], []) else
    if (Ch.setLs ls key has v).1 != 0 then ((Ch.setLs ls key has v).1, [], []) else (0, (Ch.setLs ls key has v).2, [Ch.setRec 2 ls tx key has v])
theorem Ch.setR_code {ls : List (List Ch.Row)} {tx key v c : Int} {has : Bool} (h : Ch.setF ls tx [⟨key, has, v⟩] = c) (hc : (c != 0) = true) : Ch.setR ls tx key has v = (c, [], []) := by
  rw [Ch.setR, h, if_pos hc]
theorem Ch.setR_many {ls : List (List Ch.Row)} {tx key v c : Int} {has : Bool} (h : Ch.setF ls tx [⟨key, has, v⟩] = 0) (hs : (Ch.setLs ls key has v).1 = c) (hc : (c != 0) = true) : Ch.setR ls tx key has v = (c, [], []) := by
  rw [Ch.setR, h, if_neg (by decide), hs, if_pos hc]
theorem Ch.setR_ok {ls : List (List Ch.Row)} {tx key v : Int} {has : Bool} (h : Ch.setF ls tx [⟨key, has, v⟩] = 0) (hs : (Ch.setLs ls key has v).1 = 0) : Ch.setR ls tx key has v = (0, (Ch.setLs ls key has v).2, [Ch.setRec 2 ls tx key has v]) := by
  rw [Ch.setR, h, if_neg (by decide), hs, if_neg (by decide)]
/-- Where nothing is at fault. -/
theorem Ch.setF_zero {ls : List (List Ch.Row)} {tx key v : Int} {has : Bool} (h : Ch.setF ls tx [⟨key, has, v⟩] = 0) : Ch.leavesFault ls = 0 ∧ Ch.inB tx 1 999 = true ∧ Ch.inB key 0 99 = true ∧ Ch.inB v 0 9999 = true ∧ (has = false → v = 0) := by
  unfold Ch.setF at h
  rw [Ch.bef_single] at h
  by_cases h1 : (Ch.leavesFault ls != 0) = true
  · rw [if_pos h1] at h; rw [h] at h1; cases h1
  · rw [if_neg h1] at h
    by_cases h2 : Ch.inB tx 1 999 = true
    · rw [if_pos h2] at h
      unfold Ch.Bf.fault at h
      by_cases h3 : (!Ch.inB key 0 99 || !Ch.inB v 0 9999) = true
      · rw [if_pos h3] at h; cases h
      · rw [if_neg h3] at h
        by_cases h4 : (!has && v != 0) = true
        · rw [if_pos h4] at h; cases h
        · simp only [Bool.or_eq_true, Bool.not_eq_true', not_or, Bool.not_eq_false] at h3
          refine ⟨by simpa using h1, h2, h3.1, h3.2, fun hh => ?_⟩
          subst hh
          simpa using h4
    · rw [if_neg h2] at h; cases h
theorem Ch.asked_of {ls : List (List Ch.Row)} {key : Int} (hg : Ch.leavesFault ls = 0) (hk : Ch.inB key 0 99 = true) : Ch.asked ls key = 0 := by
  unfold Ch.asked
  rw [hg, hk]; rfl
theorem Ch.row_fine {key v : Int} (hk : Ch.inB key 0 99 = true) (hv : Ch.inB v 0 9999 = true) : (⟨key, v, false⟩ : Ch.Row).fault = 0 := by
  unfold Ch.Row.fault Ch.rowFault
  simp [hk, hv]
theorem Ch.ghost_fine {key : Int} (hk : Ch.inB key 0 99 = true) : (⟨key, 0, true⟩ : Ch.Row).fault = 0 := by
  unfold Ch.Row.fault Ch.rowFault
  have h0 : Ch.inB 0 0 9999 = true := by decide
  simp [hk, h0]
theorem Ch.setLs_has {ls : List (List Ch.Row)} {key v : Int} (hg : Ch.leavesFault ls = 0) (hk : Ch.inB key 0 99 = true) (hv : Ch.inB v 0 9999 = true) : Ch.setLs ls key true v = Ch.putR ls ⟨key, v, false⟩ := by
  unfold Ch.setLs Ch.putR
  rw [if_pos rfl, hg, Ch.row_fine hk hv]
  rfl
theorem Ch.setLs_ghost {ls : List (List Ch.Row)} {key v : Int} (hg : Ch.leavesFault ls = 0) (hk : Ch.inB key 0 99 = true) (hf : (Ch.findR ls key).isSome = true) : Ch.setLs ls key false v = Ch.putR ls ⟨key, 0, true⟩ := by
  unfold Ch.setLs Ch.putR
  rw [hg, Ch.ghost_fine hk, hf]
  have h1 := Ch.put_stays hg ⟨key, 0, true⟩ hf
  have h2 := ((Ch.good_iff ls).1 hg).1
  rw [h1, if_neg (show ¬ 60 < ls.length by omega)]
  rfl
theorem Ch.setLs_none {ls : List (List Ch.Row)} {key v : Int} (hf : Ch.findR ls key = none) : Ch.setLs ls key false v = (0, ls) := by
  unfold Ch.setLs
  rw [hf]; rfl
theorem Ch.good_size {ls : List (List Ch.Row)} (hg : Ch.leavesFault ls = 0) : Ch.lvSize ls ≤ 1048576 := by
  obtain ⟨h1, h2, _, _⟩ := (Ch.good_iff ls).1 hg
  have : ∀ (xs : List (List Ch.Row)), (∀ l ∈ xs, l.length ≤ 4) → (xs.map List.length).sum ≤ 4 * xs.length := by
    intro xs
    induction xs with
    | nil => intro _; simp
    | cons x xs ih =>
      intro h
      have := ih (fun l hl => h l (List.mem_cons_of_mem _ hl))
      have := h x (List.mem_cons_self ..)
      simp; omega
  have := this ls (fun l hl => (h2 l hl).2)
  unfold Ch.lvSize
  omega
theorem Ch.setLs_good {ls : List (List Ch.Row)} {tx key v : Int} {has : Bool} (h : Ch.setF ls tx [⟨key, has, v⟩] = 0) (hs : (Ch.setLs ls key has v).1 = 0) : Ch.leavesFault (Ch.setLs ls key has v).2 = 0 := by
  obtain ⟨hg, _, hk, hv, _⟩ := Ch.setF_zero h
  cases has
  · cases hf : Ch.findR ls key with
    | none => rw [Ch.setLs_none hf]; exact hg
    | some r =>
      have hi : (Ch.findR ls key).isSome = true := by rw [hf]; rfl
      have h1 := Ch.put_stays hg ⟨key, 0, true⟩ hi
      have h2 := ((Ch.good_iff ls).1 hg).1
      have e : Ch.setLs ls key false v = (0, Ch.put ls ⟨key, 0, true⟩) := by unfold Ch.setLs; rw [hi]; rfl
      rw [e]
      exact Ch.put_good hg (Ch.ghost_fine hk) (by omega)
  · unfold Ch.setLs at hs ⊢
    rw [if_pos rfl] at hs ⊢
    by_cases hm : 60 < (Ch.put ls ⟨key, v, false⟩).length
    · rw [if_pos hm] at hs; cases hs
    · rw [if_neg hm]
      exact Ch.put_good hg (Ch.row_fine hk hv) (by omega)
theorem Ch.setR_small {ls : List (List Ch.Row)} {tx key v : Int} {has : Bool} : Ch.lvSize (Ch.setR ls tx key has v).2.1 ≤ 1048576 ∧ (Ch.setR ls tx key has v).2.2.length ≤ 1 := by
  by_cases h : Ch.setF ls tx [⟨key, has, v⟩] = 0
  · by_cases hs : (Ch.setLs ls key has v).1 = 0
    · rw [Ch.setR_ok h hs]
      exact ⟨Ch.good_size (Ch.setLs_good h hs), by simp⟩
    · rw [Ch.setR_many h rfl (by simpa using hs)]
      exact ⟨by simp [Ch.lvSize], by simp⟩
  · rw [Ch.setR_code rfl (by simpa using h)]
    exact ⟨by simp [Ch.lvSize], by simp⟩
end Go.Proofs.YthfanfnbjldddaaGreat


/- Plain facts of UndoAll. -/
namespace Go.Proofs.YthfanfnbjldddaaGreat

/-- One step back: a code stands. -/
def Ch.backOne (tx : Int) (st : Int × List (List Ch.Row) × List Ch.Rec) (b : Ch.Bf) : Int × List (List Ch.Row) × List Ch.Rec :=
  if st.1 != 0 then st else
    if (Ch.setR st.2.1 tx b.k b.h b.v).1 != 0 then ((Ch.setR st.2.1 tx b.k b.h b.v).1, [], []) else
      (0, (Ch.setR st.2.1 tx b.k b.h b.v).2.1, st.2.2 ++ [Ch.setRec 3 st.2.1 tx b.k b.h b.v])
/-- From the last one to the first. -/
def Ch.backAll (tx : Int) (ls : List (List Ch.Row)) (bs : List Ch.Bf) : Int × List (List Ch.Row) × List Ch.Rec := bs.foldr (fun b st => Ch.backOne tx st b) (0, ls, [])
def Ch.undoR (ls : List (List Ch.Row)) (tx : Int) (bs : List Ch.Bf) : Int × List (List Ch.Row) × List Ch.Rec :=
  if Ch.setF ls tx bs != 0 then (Ch.setF ls tx bs, [], []) else Ch.backAll tx ls bs
theorem Ch.back_code {tx c : Int} {ls : List (List Ch.Row)} {rs : List Ch.Rec} {b : Ch.Bf} (h : (c != 0) = true) : Ch.backOne tx (c, ls, rs) b = (c, ls, rs) := by
  unfold Ch.backOne; rw [if_pos h]
theorem Ch.back_many {tx c : Int} {ls : List (List Ch.Row)} {rs : List Ch.Rec} {b : Ch.Bf} (hs : (Ch.setR ls tx b.k b.h b.v).1 = c) (h : (c != 0) = true) : Ch.backOne tx (0, ls, rs) b = (c, [], []) := by
  unfold Ch.backOne; simp only; rw [if_neg (by decide), hs, if_pos h]
theorem Ch.back_ok {tx : Int} {ls : List (List Ch.Row)} {rs : List Ch.Rec} {b : Ch.Bf} (hs : (Ch.setR ls tx b.k b.h b.v).1 = 0) : Ch.backOne tx (0, ls, rs) b = (0, (Ch.setR ls tx b.k b.h b.v).2.1, rs ++ [Ch.setRec 3 ls tx b.k b.h b.v]) := by
  unfold Ch.backOne; simp only; rw [if_neg (by decide), hs, if_neg (by decide)]
theorem Ch.back_end {tx : Int} {ls : List (List Ch.Row)} {bs : List Ch.Bf} {k : Nat} (h : bs.length ≤ k) : Ch.backAll tx ls (bs.drop k) = (0, ls, []) := by
  rw [List.drop_of_length_le h]; rfl
theorem Ch.back_next {tx : Int} {ls : List (List Ch.Row)} {bs : List Ch.Bf} {k : Nat} (h : k < bs.length) : Ch.backAll tx ls (bs.drop k) = Ch.backOne tx (Ch.backAll tx ls (bs.drop (k + 1))) (bs.getD k Ch.Bf.zero) := by
  rw [Ch.bef_drop h]; rfl
/-- What a step keeps: leaves without a fault, few records. -/
theorem Ch.back_keeps {tx : Int} {ls : List (List Ch.Row)} (hg : Ch.leavesFault ls = 0) (bs : List Ch.Bf) : Ch.lvSize (Ch.backAll tx ls bs).2.1 ≤ 1048576 ∧ (Ch.backAll tx ls bs).2.2.length ≤ bs.length ∧ ((Ch.backAll tx ls bs).1 = 0 → Ch.leavesFault (Ch.backAll tx ls bs).2.1 = 0) := by
  induction bs with
  | nil => exact ⟨Ch.good_size hg, by simp [Ch.backAll], fun _ => hg⟩
  | cons b bs ih =>
    have e : Ch.backAll tx ls (b :: bs) = Ch.backOne tx (Ch.backAll tx ls bs) b := rfl
    rw [e]
    obtain ⟨h1, h2, h3⟩ := ih
    generalize Ch.backAll tx ls bs = st at *
    obtain ⟨c, l, r⟩ := st
    simp only at h1 h2 h3
    by_cases hc : c = 0
    · subst hc
      by_cases hs : (Ch.setR l tx b.k b.h b.v).1 = 0
      · rw [Ch.back_ok hs]
        have hz := Ch.setR_small (ls := l) (tx := tx) (key := b.k) (v := b.v) (has := b.h)
        refine ⟨hz.1, by simp; omega, fun _ => ?_⟩
        by_cases hf : Ch.setF l tx [⟨b.k, b.h, b.v⟩] = 0
        · by_cases hm : (Ch.setLs l b.k b.h b.v).1 = 0
          · rw [Ch.setR_ok hf hm]; exact Ch.setLs_good hf hm
          · rw [Ch.setR_many hf rfl (by simpa using hm)] at hs; exact absurd hs hm
        · rw [Ch.setR_code rfl (by simpa using hf)] at hs; exact absurd hs hf
      · rw [Ch.back_many rfl (by simpa using hs)]
        exact ⟨by simp [Ch.lvSize], by simp, fun h => absurd h hs⟩
    · rw [Ch.back_code (by simpa using hc)]
      exact ⟨h1, by simp; omega, h3⟩
theorem Ch.undoR_code {ls : List (List Ch.Row)} {tx c : Int} {bs : List Ch.Bf} (h : Ch.setF ls tx bs = c) (hc : (c != 0) = true) : Ch.undoR ls tx bs = (c, [], []) := by
  rw [Ch.undoR, h, if_pos hc]
theorem Ch.undoR_ok {ls : List (List Ch.Row)} {tx : Int} {bs : List Ch.Bf} (h : Ch.setF ls tx bs = 0) : Ch.undoR ls tx bs = Ch.backAll tx ls bs := by
  rw [Ch.undoR, h, if_neg (by decide)]
/-- The record of a step is that of the change, as one that goes back. -/
theorem Ch.setR_rec {ls : List (List Ch.Row)} {tx key v : Int} {has : Bool} (h : (Ch.setR ls tx key has v).1 = 0) : (Ch.setR ls tx key has v).2.2 = [Ch.setRec 2 ls tx key has v] := by
  by_cases hf : Ch.setF ls tx [⟨key, has, v⟩] = 0
  · by_cases hm : (Ch.setLs ls key has v).1 = 0
    · rw [Ch.setR_ok hf hm]
    · rw [Ch.setR_many hf rfl (by simpa using hm)] at h; exact absurd h hm
  · rw [Ch.setR_code rfl (by simpa using hf)] at h; exact absurd h hf
end Go.Proofs.YthfanfnbjldddaaGreat


/- Plain facts of FnSets and FnUndos: what a key has behind a change, and behind what is taken back. -/
namespace Go.Proofs.YthfanfnbjldddaaGreat.Ch

theorem has_set {ls : List (List Row)} {tx key v : Int} {h : Bool} (hf : setF ls tx [⟨key, h, v⟩] = 0) (hs : (setLs ls key h v).1 = 0) (k : Int) :
    Ch.has (setLs ls key h v).2 k = if k = key then (if h then some v else none) else Ch.has ls k := by
  obtain ⟨hg, _, hk, hv, h0⟩ := setF_zero hf
  cases h
  · cases hfr : findR ls key with
    | none =>
      rw [setLs_none hfr]
      by_cases hkk : k = key
      · subst hkk; rw [if_pos rfl]; simp [Ch.has, hfr]
      · rw [if_neg hkk]
    | some r =>
      have e : setLs ls key false v = (0, put ls ⟨key, 0, true⟩) := by unfold setLs; rw [hfr]; rfl
      rw [e]
      by_cases hkk : k = key
      · subst hkk
        have := put_find (r := ⟨k, 0, true⟩) hg
        simp only at this
        rw [if_pos rfl]
        simp [Ch.has, this]
      · rw [if_neg hkk]
        unfold Ch.has
        rw [put_find_other hg hkk]
  · have e : setLs ls key true v = (0, put ls ⟨key, v, false⟩) := by
      unfold setLs at hs ⊢
      rw [if_pos rfl] at hs ⊢
      by_cases hm : 60 < (put ls ⟨key, v, false⟩).length
      · rw [if_pos hm] at hs; cases hs
      · rw [if_neg hm]
    rw [e]
    by_cases hkk : k = key
    · subst hkk
      have := put_find (r := ⟨k, v, false⟩) hg
      simp only at this
      rw [if_pos rfl]
      simp [Ch.has, this]
    · rw [if_neg hkk]
      unfold Ch.has
      rw [put_find_other hg hkk]
/-- A key that has a row has one behind a change. -/
theorem find_set {ls : List (List Row)} {tx key v : Int} {h : Bool} (hf : setF ls tx [⟨key, h, v⟩] = 0) (hs : (setLs ls key h v).1 = 0) (k : Int) (hx : (findR ls k).isSome = true) : (findR (setLs ls key h v).2 k).isSome = true := by
  obtain ⟨hg, _, hk, hv, h0⟩ := setF_zero hf
  cases h
  · cases hfr : findR ls key with
    | none => rw [setLs_none hfr]; exact hx
    | some r =>
      have e : setLs ls key false v = (0, put ls ⟨key, 0, true⟩) := by unfold setLs; rw [hfr]; rfl
      rw [e]
      by_cases hkk : k = key
      · subst hkk
        have := put_find (r := ⟨k, 0, true⟩) hg
        simp only at this
        simp [this]
      · simp only; rw [put_find_other hg hkk]; exact hx
  · have e : setLs ls key true v = (0, put ls ⟨key, v, false⟩) := by
      unfold setLs at hs ⊢
      rw [if_pos rfl] at hs ⊢
      by_cases hm : 60 < (put ls ⟨key, v, false⟩).length
      · rw [if_pos hm] at hs; cases hs
      · rw [if_neg hm]
    rw [e]
    by_cases hkk : k = key
    · subst hkk
      have := put_find (r := ⟨k, v, false⟩) hg
      simp only at this
      simp [this]
    · simp only; rw [put_find_other hg hkk]; exact hx
theorem has_find {ls : List (List Row)} {key v : Int} (h : Ch.has ls key = some v) : (findR ls key).isSome = true := by
  unfold Ch.has at h
  cases hf : findR ls key with
  | none => rw [hf] at h; cases h
  | some r => rfl
theorem has_range {ls : List (List Row)} (hg : leavesFault ls = 0) {key v : Int} (h : Ch.has ls key = some v) : inB v 0 9999 = true := by
  unfold Ch.has at h
  cases hf : findR ls key with
  | none => rw [hf] at h; cases h
  | some r =>
    rw [hf] at h
    simp only at h
    unfold findR at hf
    have hm := List.mem_of_find?_eq_some hf
    have hr := ((good_iff ls).1 hg).2.2.1 r hm
    by_cases hgh : r.g = true
    · rw [if_pos hgh] at h; cases h
    · rw [if_neg hgh] at h
      cases h
      unfold Row.fault rowFault at hr
      cases hv : inB r.v 0 9999
      · rw [hv] at hr
        simp at hr
      · rfl
theorem bf_fine' {ls : List (List Row)} (hg : leavesFault ls = 0) {key : Int} (hk : inB key 0 99 = true) : (bf key (Ch.has ls key)).fault = 0 := by
  cases h : Ch.has ls key with
  | none =>
    unfold bf Bf.fault
    simp [hk, show inB 0 0 9999 = true from by decide]
  | some v =>
    unfold bf Bf.fault
    simp [hk, has_range hg h]
theorem bf_key (key : Int) (o : Option Int) : (bf key o).k = key := by cases o <;> rfl
theorem bf_back (key : Int) (o : Option Int) : (if (bf key o).h then some (bf key o).v else none) = o := by cases o <;> rfl
theorem setF_of {ls : List (List Row)} {tx : Int} {bs : List Bf} (hg : leavesFault ls = 0) (ht : inB tx 1 999 = true) (hb : befFault bs = 0) : setF ls tx bs = 0 := by
  unfold setF
  rw [hg, if_neg (by decide), if_pos ht, hb]

theorem rows_same {a b : List Row} (ha : a.Pairwise fun x y => x.k < y.k) (hb : b.Pairwise fun x y => x.k < y.k) (h : ∀ x, x ∈ a ↔ x ∈ b) : a = b := by
  induction a generalizing b with
  | nil =>
    cases b with
    | nil => rfl
    | cons y b => exact absurd ((h y).2 (by simp)) (by simp)
  | cons x a ih =>
    cases b with
    | nil => exact absurd ((h x).1 (by simp)) (by simp)
    | cons y b =>
      rw [List.pairwise_cons] at ha hb
      have hxy : x = y := by
        rcases List.mem_cons.1 ((h x).1 (by simp)) with e | e
        · exact e
        · rcases List.mem_cons.1 ((h y).2 (by simp)) with e2 | e2
          · exact e2.symm
          · have h1 := hb.1 x e
            have h2 := ha.1 y e2
            omega
      subst hxy
      congr 1
      refine ih ha.2 hb.2 fun z => ?_
      constructor
      · intro hm
        rcases List.mem_cons.1 ((h z).1 (List.mem_cons_of_mem _ hm)) with e | e
        · subst e; have := ha.1 z hm; omega
        · exact e
      · intro hm
        rcases List.mem_cons.1 ((h z).2 (List.mem_cons_of_mem _ hm)) with e | e
        · subst e; have := hb.1 z hm; omega
        · exact e
/-- Which rows are no ghosts: those that a key has. -/
theorem noGhost_mem {ls : List (List Row)} (hg : leavesFault ls = 0) {r : Row} : r ∈ noGhost ls.flatten ↔ r.g = false ∧ Ch.has ls r.k = some r.v := by
  obtain ⟨_, _, _, hp⟩ := (good_iff ls).1 hg
  unfold noGhost
  rw [List.mem_filter]
  constructor
  · rintro ⟨hm, hng⟩
    have hng' : r.g = false := by simpa using hng
    refine ⟨hng', ?_⟩
    have hf : findR ls r.k = some r := by
      unfold findR
      rw [List.find?_eq_some_iff_append]
      obtain ⟨as_, bs_, e⟩ := List.append_of_mem hm
      refine ⟨by simp, as_, bs_, e, fun a ha => ?_⟩
      rw [e, List.pairwise_append] at hp
      have := hp.2.2 a ha r (by simp)
      simp
      omega
    unfold Ch.has
    rw [hf]
    simp [hng']
  · rintro ⟨hng, hh⟩
    unfold Ch.has at hh
    cases hf : findR ls r.k with
    | none => rw [hf] at hh; cases hh
    | some x =>
      rw [hf] at hh
      simp only at hh
      have hxk : x.k = r.k := by
        unfold findR at hf
        have := List.find?_some hf
        simpa using this
      have hxm : x ∈ ls.flatten := by unfold findR at hf; exact List.mem_of_find?_eq_some hf
      by_cases hgh : x.g = true
      · rw [if_pos hgh] at hh; cases hh
      · rw [if_neg hgh] at hh
        have hxg : x.g = false := by simpa using hgh
        have : x = r := by
          cases x; cases r
          simp at hxk hh hxg hng
          simp [hxk, hh, hxg, hng]
        subst this
        exact ⟨hxm, by simp [hng]⟩
theorem noGhost_same {ls ls' : List (List Row)} (hg : leavesFault ls = 0) (hg' : leavesFault ls' = 0) (h : ∀ k, Ch.has ls k = Ch.has ls' k) : noGhost ls.flatten = noGhost ls'.flatten := by
  refine rows_same (((good_iff ls).1 hg).2.2.2.filter _) (((good_iff ls').1 hg').2.2.2.filter _) fun r => ?_
  rw [noGhost_mem hg, noGhost_mem hg', h]
theorem flat_240 {ls : List (List Row)} (hg : leavesFault ls = 0) : ls.flatten.length ≤ 240 := by
  obtain ⟨h1, h2, _, _⟩ := (good_iff ls).1 hg
  have : ∀ (xs : List (List Row)), (∀ l ∈ xs, l.length ≤ 4) → xs.flatten.length ≤ 4 * xs.length := by
    intro xs
    induction xs with
    | nil => intro _; simp
    | cons x xs ih =>
      intro h
      have := ih (fun l hl => h l (List.mem_cons_of_mem _ hl))
      have := h x (List.mem_cons_self ..)
      simp at *; omega
  have := this ls (fun l hl => (h2 l hl).2)
  omega
theorem map_good {ls : List (List Row)} (hg : leavesFault ls = 0) : mapRR ls.flatten = (0, noGhost ls.flatten) := by
  obtain ⟨_, _, h3, h4⟩ := (good_iff ls).1 hg
  refine mapRR_ok ?_
  rw [mapF_rise (by have := flat_240 hg; omega) (each_zero h3)]
  unfold rise
  exact (rise_iff _ _).2 ⟨h3, h4, fun q hq => by cases hq⟩

/-- What is set, and then taken back. -/
theorem sets_tell {ls ls' : List (List Row)} {tx key v : Int} {h : Bool} {rs : List Rec} (hr : setR ls tx key h v = (0, ls', rs)) :
    leavesFault ls = 0 ∧ inB tx 1 999 = true ∧ inB key 0 99 = true ∧ inB v 0 9999 = true ∧ leavesFault ls' = 0 ∧ rs = [setRec 2 ls tx key h v] ∧ (h = false → v = 0) ∧ (∀ k, Ch.has ls' k = if k = key then (if h then some v else none) else Ch.has ls k) ∧
      ∃ ls'', undoR ls' tx [bf key (Ch.has ls key)] = (0, ls'', [setRec 3 ls' tx key (bf key (Ch.has ls key)).h (bf key (Ch.has ls key)).v]) ∧ leavesFault ls'' = 0 ∧ ∀ k, Ch.has ls'' k = Ch.has ls k := by
  by_cases hf : setF ls tx [⟨key, h, v⟩] = 0
  · by_cases hs : (setLs ls key h v).1 = 0
    · rw [setR_ok hf hs] at hr
      simp only [Prod.mk.injEq, true_and] at hr
      obtain ⟨rfl, rfl⟩ := hr
      obtain ⟨hg, ht, hk, hv, h0⟩ := setF_zero hf
      have hg' := setLs_good hf hs
      have hb := bf_fine' hg hk
      have hhs := has_set hf hs
      have hfs := find_set hf hs
      generalize (setLs ls key h v).2 = ls' at *
      refine ⟨hg, ht, hk, hv, hg', rfl, h0, hhs, ?_⟩
      have hbk := bf_key key (Ch.has ls key)
      have hbb := bf_back key (Ch.has ls key)
      have hbs : (bf key (Ch.has ls key)).h = true → (findR ls key).isSome = true := by
        intro e
        cases hh : Ch.has ls key with
        | none => rw [hh] at e; cases e
        | some x => exact has_find hh
      generalize bf key (Ch.has ls key) = b at *
      obtain ⟨bk, bh, bv⟩ := b
      simp only at hbk hbb hbs
      subst hbk
      have hF2 : setF ls' tx [⟨bk, bh, bv⟩] = 0 := setF_of hg' ht (by rw [bef_single]; exact hb)
      have hS2 : (setLs ls' bk bh bv).1 = 0 := by
        cases bh
        · unfold setLs
          simp only [Bool.false_eq_true, if_false]
          split <;> rfl
        · have h1 := hfs bk (hbs rfl)
          have h2 := put_stays hg' ⟨bk, bv, false⟩ h1
          have h3 := ((good_iff ls').1 hg').1
          unfold setLs
          rw [if_pos rfl, h2, if_neg (by omega)]
      have e1 : setR ls' tx bk bh bv = (0, (setLs ls' bk bh bv).2, [setRec 2 ls' tx bk bh bv]) := setR_ok hF2 hS2
      refine ⟨(setLs ls' bk bh bv).2, ?_, setLs_good hF2 hS2, fun k => ?_⟩
      · rw [undoR_ok hF2]
        show backOne tx (0, ls', []) ⟨bk, bh, bv⟩ = _
        rw [back_ok (b := ⟨bk, bh, bv⟩) (by simp only; rw [e1])]
        simp only [e1, List.nil_append]
      · rw [has_set hF2 hS2]
        by_cases hkk : k = bk
        · subst hkk; rw [if_pos rfl]; exact hbb
        · rw [if_neg hkk, hhs, if_neg hkk]
    · rw [setR_many hf rfl (by simpa using hs)] at hr
      simp only [Prod.mk.injEq] at hr
      exact absurd hr.1 hs
  · rw [setR_code rfl (by simpa using hf)] at hr
    simp only [Prod.mk.injEq] at hr
    exact absurd hr.1 hf
end Go.Proofs.YthfanfnbjldddaaGreat.Ch


/- Plain facts of FnIndexes: an index that is turned with the rows is that of the rows. -/
namespace Go.Proofs.YthfanfnbjldddaaGreat.Ch

/-- An index of what the keys have. -/
structure IxOf (ps : List Hold) (f : Int → Option Int) : Prop where
  sort : SortE ps
  mem : ∀ p, p ∈ ps ↔ f p.m = some p.t
theorem IxOf.same {ps qs : List Hold} {f g : Int → Option Int} (h : IxOf ps f) (h' : IxOf qs g) (he : ∀ k, f k = g k) : ps = qs :=
  sort_same h.sort h'.sort fun p => by rw [h.mem, h'.mem, he]
theorem ixOf_has {ls : List (List Row)} (hg : leavesFault ls = 0) : IxOf (ixOfL ls) (Ch.has ls) := by
  refine ⟨sortE_sort _, fun p => ?_⟩
  unfold ixOfL
  rw [sortE_mem, List.mem_map]
  constructor
  · rintro ⟨r, hr, rfl⟩
    exact ((noGhost_mem hg).1 hr).2
  · intro h
    exact ⟨⟨p.m, p.t, false⟩, (noGhost_mem hg).2 ⟨rfl, h⟩, rfl⟩
theorem IxOf.turn {ps : List Hold} {f : Int → Option Int} (h : IxOf ps f) (key nk : Int) (b : Bool) (v : Int) : IxOf (turnL ps key ⟨nk, b, v⟩) (fun k => if k = key then (if b then some v else none) else f k) := by
  have hf : SortE (ps.filter fun p => p.m != key) := List.Pairwise.filter _ h.sort
  have hm : ∀ p, p ∈ (ps.filter fun p => p.m != key) ↔ p.m ≠ key ∧ f p.m = some p.t := fun p => by
    rw [List.mem_filter, h.mem]
    constructor
    · rintro ⟨h1, h2⟩; exact ⟨by simpa using h2, h1⟩
    · rintro ⟨h1, h2⟩; exact ⟨h2, by simpa using h1⟩
  cases b
  · refine ⟨hf, fun p => ?_⟩
    show p ∈ (ps.filter fun p => p.m != key) ↔ _
    rw [hm]
    by_cases hk : p.m = key
    · rw [if_pos hk]; simp [hk]
    · rw [if_neg hk]; simp [hk]
  · refine ⟨insE_sort hf _, fun p => ?_⟩
    show p ∈ insE (ps.filter fun p => p.m != key) ⟨v, key⟩ ↔ _
    rw [insE_mem, hm]
    by_cases hk : p.m = key
    · rw [if_pos hk]
      obtain ⟨pt, pm⟩ := p
      simp only at hk
      subst hk
      simp [eq_comm]
    · rw [if_neg hk]
      constructor
      · rintro (rfl | h1)
        · exact absurd rfl hk
        · exact h1.2
      · intro h1; exact .inr ⟨hk, h1⟩
theorem keys_nodup {ps : List Hold} {f : Int → Option Int} (h : IxOf ps f) : (keysOf ps).Nodup := by
  have hs := h.sort
  have hm : ∀ p ∈ ps, f p.m = some p.t := fun p hp => (h.mem p).1 hp
  clear h
  induction ps with
  | nil => simp [keysOf]
  | cons x ps ih =>
    unfold SortE at hs
    rw [List.pairwise_cons] at hs
    unfold keysOf at *
    rw [List.map_cons, List.nodup_cons]
    refine ⟨fun hc => ?_, ih hs.2 fun p hp => hm p (List.mem_cons_of_mem _ hp)⟩
    obtain ⟨q, hq, he⟩ := List.mem_map.1 hc
    have h1 := hm x (List.mem_cons_self ..)
    have h2 := hm q (List.mem_cons_of_mem _ hq)
    rw [he, h1] at h2
    have h3 := hs.1 q hq
    rw [ltE_iff] at h3
    have h4 : x.t = q.t := by simpa using h2
    omega
theorem find_key {ls : List (List Row)} (hg : leavesFault ls = 0) {key v : Int} (h : Ch.has ls key = some v) : inB key 0 99 = true := by
  unfold Ch.has at h
  cases hf : findR ls key with
  | none => rw [hf] at h; cases h
  | some r =>
    unfold findR at hf
    have hm := List.mem_of_find?_eq_some hf
    have hk : r.k = key := by have := List.find?_some hf; simpa using this
    have hr := ((good_iff ls).1 hg).2.2.1 r hm
    obtain ⟨rk, rv, rg⟩ := r
    simp only at hk
    subst hk
    have := rowFault_key (k := rk) (v := rv) (g := rg) hr
    simp [inB, this.1, this.2]
theorem sort_len (l : List Hold) : (sortE l).length ≤ l.length := by
  have h0 : ∀ (l : List Hold) (e : Hold), (insE l e).length ≤ l.length + 1 := by
    intro l e
    induction l with
    | nil => simp [insE]
    | cons x l ih =>
      unfold insE
      split
      · simp; exact ih
      · split <;> simp
  unfold sortE
  suffices H : ∀ (l acc : List Hold), (l.foldl insE acc).length ≤ acc.length + l.length by simpa using H l []
  intro l
  induction l with
  | nil => intro acc; simp
  | cons x l ih =>
    intro acc
    have := ih (insE acc x)
    have := h0 acc x
    simp only [List.foldl_cons, List.length_cons]
    omega
theorem ixOf_fine {ls : List (List Row)} (hg : leavesFault ls = 0) : ixFault (ixOfL ls) = 0 := by
  have H := ixOf_has hg
  refine good_ix ⟨?_, fun p hp => has_range hg ((H.mem p).1 hp), fun p hp => find_key hg ((H.mem p).1 hp), H.sort, keys_nodup H⟩
  have h1 := sort_len ((noGhost ls.flatten).map pairR)
  have h2 := noGhost_len ls.flatten
  have h3 := flat_240 hg
  unfold ixOfL
  simp at h1 ⊢
  omega
theorem turn_fine {ls : List (List Row)} (hg : leavesFault ls = 0) {key : Int} {now : Bf} (hk : inB key 0 99 = true) (hn : now.fault = 0) (hnk : now.k = key) : turnF (ixOfL ls) key (bf key (Ch.has ls key)) now = 0 := by
  have H := ixOf_has hg
  have hb := bf_fine' hg hk
  have hbk := bf_key key (Ch.has ls key)
  have h2 : befFault [bf key (Ch.has ls key), now] = 0 := by
    unfold befFault
    rw [if_neg (by simp)]
    simp only [befOne]
    rw [hb, hn]; rfl
  unfold turnF
  rw [ixOf_fine hg, if_neg (by decide), h2, if_neg (by decide), hbk, hnk]
  simp only [bne_self_eq_false, Bool.or_self, Bool.false_eq_true, if_false]
  cases hh : Ch.has ls key with
  | none =>
    have : thereP (ixOfL ls) key = false := by
      unfold thereP
      rw [List.any_eq_false]
      intro p hp hc
      have hc : p.m = key := by simpa using hc
      have := (H.mem p).1 hp
      rw [hc, hh] at this
      cases this
    simp [bf, this]
  | some v =>
    have : rightP (ixOfL ls) key v = true := by
      unfold rightP
      rw [List.any_eq_true]
      exact ⟨⟨v, key⟩, (H.mem ⟨v, key⟩).2 hh, by simp⟩
    simp [bf, this]
theorem indexes_walk {ls ls' : List (List Row)} {tx key v : Int} {h : Bool} {rs : List Rec} (hr : setR ls tx key h v = (0, ls', rs)) :
    ∃ bh bv, leavesFault ls = 0 ∧ leavesFault ls' = 0 ∧ bfOf ls key = ⟨key, bh, bv⟩ ∧ turnR (ixOfL ls) key ⟨key, bh, bv⟩ ⟨key, h, v⟩ = (0, ixOfL ls') ∧ ixFault (ixOfL ls') = 0 ∧ turnR (ixOfL ls') key ⟨key, h, v⟩ ⟨key, bh, bv⟩ = (0, ixOfL ls) := by
  obtain ⟨hg, _, hk, hv, hg', _, h0, hh, _⟩ := sets_tell hr
  have hbk := bf_key key (Ch.has ls key)
  have hbb := bf_back key (Ch.has ls key)
  have hbo : bfOf ls key = bf key (Ch.has ls key) := bfOf_ok (by rw [asked_of hg hk]; rfl)
  have hbf := bf_fine' hg hk
  have hnow : (⟨key, h, v⟩ : Bf).fault = 0 := by
    unfold Bf.fault
    simp only
    rw [hk, hv]
    cases h
    · simp [h0 rfl]
    · rfl
  have T1 := turn_fine hg hk hnow rfl
  have hh' : Ch.has ls' key = if h then some v else none := by rw [hh, if_pos rfl]
  have hnb : bf key (Ch.has ls' key) = ⟨key, h, v⟩ := by
    rw [hh']
    cases h
    · simp [bf, h0 rfl]
    · rfl
  have T2 := turn_fine hg' hk hbf hbk
  rw [hnb] at T2
  generalize bf key (Ch.has ls key) = b at *
  obtain ⟨bk, bh, bv⟩ := b
  simp only at hbk hbb
  subst hbk
  refine ⟨bh, bv, hg, hg', hbo, ?_, ixOf_fine hg', ?_⟩
  · rw [turnR_ok T1, (((ixOf_has hg).turn bk bk h v).same (ixOf_has hg') fun k => (hh k).symm)]
  · rw [turnR_ok T2]
    refine congrArg _ (((ixOf_has hg').turn bk bk bh bv).same (ixOf_has hg) fun k => ?_)
    by_cases hkk : k = bk
    · rw [if_pos hkk, hkk]; exact hbb
    · rw [if_neg hkk, hh, if_neg hkk]
end Go.Proofs.YthfanfnbjldddaaGreat.Ch

