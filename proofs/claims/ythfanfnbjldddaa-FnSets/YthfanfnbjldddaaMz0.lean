/- Several texts in one: UndM, MapM, SetN, BfB, ValW, PutG, PutH, DropL, PutL, RcA. -/
import Derived.Test.YthfanfnbjldddaaSetM
import Derived.Test.YthfanfnbjldddaaScanW
import Derived.Test.YthfanfnbjldddaaGoodM
import Derived.Lib.SmallJoins
import Derived.Test.YthfanfnbjldddaaUnM
import Derived.Test.YthfanfnbjldddaaFindI
import Derived.Test.YthfanfnbjldddaaPutD
import Derived.Test.YthfanfnbjldddaaDropI
import Derived.Test.YthfanfnbjldddaaPutF
import Derived.Test.YthfanfnbjldddaaResL
import Derived.Deep.DeepCutAuto
import Derived.Test.YthfanfnbjldddaaRowa
import Derived.Test.YthfanfnbjldddaaRecM
import Derived.Test.YthfanfnbjldddaaLvB


/- Plain facts of UndoAll. -/
namespace Go.Proofs.Ythfanfnbjldddaa

/-- One step back: a code stands. -/
def Ch.backOne (tx : Int) (st : Int × List (List Ch.Row) × List Ch.Rec) (b : Ch.Bf) : Int × List (List Ch.Row) × List Ch.Rec :=
  if st.1 != 0 then st else
    if (Ch.setR st.2.1 tx b.k b.h b.v).1 != 0 then ((Ch.setR st.2.1 tx b.k b.h b.v).1, [], []) else
      (0, (Ch.setR st.2.1 tx b.k b.h b.v).2.1, st.2.2 ++ [Ch.setRec 3 st.2.1 tx b.k b.h b.v])
/-- From the last one to the first. -/
def Ch.backAll (tx : Int) (ls : List (List Ch.Row)) (bs : List Ch.Bf) : Int × List (List Ch.Row) × List Ch.Rec := bs.foldr (fun b st => Ch.backOne tx st b) (0, ls, [])
def Ch.undoR (ls : List (List Ch.Row)) (tx : Int) (bs : List Ch.Bf) : Int × List (List Ch.Row) × List Ch.Rec :=
  if Ch.setF ls tx bs != 0 then (Ch.setF ls tx bs, [], []) else Ch.backAll tx ls bs
theorem Ch.back_code {tx c : Int} {ls : List (List Ch.Row)} {rs : List Ch.Rec} {b : Ch.Bf} (h : (c != 0) = true) : Ch.backOne tx (c, ls, rs) b = (c, ls, rs) := by
  unfold Ch.backOne; rw [if_pos h]
theorem Ch.back_many {tx c : Int} {ls : List (List Ch.Row)} {rs : List Ch.Rec} {b : Ch.Bf} (hs : (Ch.setR ls tx b.k b.h b.v).1 = c) (h : (c != 0) = true) : Ch.backOne tx (0, ls, rs) b = (c, [], []) := by
  unfold Ch.backOne; simp only; rw [if_neg (by decide), hs, if_pos h]
theorem Ch.back_ok {tx : Int} {ls : List (List Ch.Row)} {rs : List Ch.Rec} {b : Ch.Bf} (hs : (Ch.setR ls tx b.k b.h b.v).1 = 0) : Ch.backOne tx (0, ls, rs) b = (0, (Ch.setR ls tx b.k b.h b.v).2.1, rs ++ [Ch.setRec 3 ls tx b.k b.h b.v]) := by
  unfold Ch.backOne; simp only; rw [if_neg (by decide), hs, if_neg (by decide)]
theorem Ch.back_end {tx : Int} {ls : List (List Ch.Row)} {bs : List Ch.Bf} {k : Nat} (h : bs.length ≤ k) : Ch.backAll tx ls (bs.drop k) = (0, ls, []) := by
  rw [List.drop_of_length_le h]; rfl
theorem Ch.back_next {tx : Int} {ls : List (List Ch.Row)} {bs : List Ch.Bf} {k : Nat} (h : k < bs.length) : Ch.backAll tx ls (bs.drop k) = Ch.backOne tx (Ch.backAll tx ls (bs.drop (k + 1))) (bs.getD k Ch.Bf.zero) := by
  rw [Ch.bef_drop h]; rfl
/-- What a step keeps: leaves without a fault, few records. -/
theorem Ch.back_keeps {tx : Int} {ls : List (List Ch.Row)} (hg : Ch.leavesFault ls = 0) (bs : List Ch.Bf) : Ch.lvSize (Ch.backAll tx ls bs).2.1 ≤ 1048576 ∧ (Ch.backAll tx ls bs).2.2.length ≤ bs.length ∧ ((Ch.backAll tx ls bs).1 = 0 → Ch.leavesFault (Ch.backAll tx ls bs).2.1 = 0) := by
  induction bs with
  | nil => exact ⟨Ch.good_size hg, by simp [Ch.backAll], fun _ => hg⟩
  | cons b bs ih =>
    have e : Ch.backAll tx ls (b :: bs) = Ch.backOne tx (Ch.backAll tx ls bs) b := rfl
    rw [e]
    obtain ⟨h1, h2, h3⟩ := ih
    generalize Ch.backAll tx ls bs = st at *
    obtain ⟨c, l, r⟩ := st
    simp only at h1 h2 h3
    by_cases hc : c = 0
    · subst hc
      by_cases hs : (Ch.setR l tx b.k b.h b.v).1 = 0
      · rw [Ch.back_ok hs]
        have hz := Ch.setR_small (ls := l) (tx := tx) (key := b.k) (v := b.v) (has := b.h)
        refine ⟨hz.1, by simp; omega, fun _ => ?_⟩
        by_cases hf : Ch.setF l tx [⟨b.k, b.h, b.v⟩] = 0
        · by_cases hm : (Ch.setLs l b.k b.h b.v).1 = 0
          · rw [Ch.setR_ok hf hm]; exact Ch.setLs_good hf hm
          · rw [Ch.setR_many hf rfl (by simpa using hm)] at hs; exact absurd hs hm
        · rw [Ch.setR_code rfl (by simpa using hf)] at hs; exact absurd hs hf
      · rw [Ch.back_many rfl (by simpa using hs)]
        exact ⟨by simp [Ch.lvSize], by simp, fun h => absurd h hs⟩
    · rw [Ch.back_code (by simpa using hc)]
      exact ⟨h1, by simp; omega, h3⟩
theorem Ch.undoR_code {ls : List (List Ch.Row)} {tx c : Int} {bs : List Ch.Bf} (h : Ch.setF ls tx bs = c) (hc : (c != 0) = true) : Ch.undoR ls tx bs = (c, [], []) := by
  rw [Ch.undoR, h, if_pos hc]
theorem Ch.undoR_ok {ls : List (List Ch.Row)} {tx : Int} {bs : List Ch.Bf} (h : Ch.setF ls tx bs = 0) : Ch.undoR ls tx bs = Ch.backAll tx ls bs := by
  rw [Ch.undoR, h, if_neg (by decide)]
/-- The record of a step is that of the change, as one that goes back. -/
theorem Ch.setR_rec {ls : List (List Ch.Row)} {tx key v : Int} {has : Bool} (h : (Ch.setR ls tx key has v).1 = 0) : (Ch.setR ls tx key has v).2.2 = [Ch.setRec 2 ls tx key has v] := by
  by_cases hf : Ch.setF ls tx [⟨key, has, v⟩] = 0
  · by_cases hm : (Ch.setLs ls key has v).1 = 0
    · rw [Ch.setR_ok hf hm]
    · rw [Ch.setR_many hf rfl (by simpa using hm)] at h; exact absurd h hm
  · rw [Ch.setR_code rfl (by simpa using hf)] at h; exact absurd h hf
end Go.Proofs.Ythfanfnbjldddaa


/- MapOfRows of the program and of the model. -/
namespace Go.Proofs.Ythfanfnbjldddaa
open Go.RowKit

/-! Plain -/
/-- Rows one by one: the first fault. -/
def Ch.eachF : List Ch.Row → Int
  | [] => 0
  | r :: rs => if r.fault != 0 then r.fault else Ch.eachF rs
def Ch.mapF (rs : List Ch.Row) : Int := if 240 < rs.length then 2 else if Ch.eachF rs != 0 then Ch.eachF rs else Ch.rise rs
def Ch.noGhost (rs : List Ch.Row) : List Ch.Row := rs.filter (fun r => !r.g)
def Ch.mapRR (rs : List Ch.Row) : Int × List Ch.Row := if Ch.mapF rs != 0 then (Ch.mapF rs, []) else (0, Ch.noGhost rs)
theorem Ch.row_drop {rs : List Ch.Row} {k : Nat} (h : k < rs.length) : rs.drop k = rs.getD k Ch.Row.zero :: rs.drop (k + 1) := by
  rw [List.drop_eq_getElem_cons h]; simp [List.getD, h]
theorem Ch.each_at {rs : List Ch.Row} {k : Nat} (h : k < rs.length) (hf : ((rs.getD k Ch.Row.zero).fault != 0) = true) : Ch.eachF (rs.drop k) = (rs.getD k Ch.Row.zero).fault := by
  rw [Ch.row_drop h, Ch.eachF, if_pos hf]
theorem Ch.each_on {rs : List Ch.Row} {k : Nat} (h : k < rs.length) (hf : ((rs.getD k Ch.Row.zero).fault != 0) = false) : Ch.eachF (rs.drop k) = Ch.eachF (rs.drop (k + 1)) := by
  rw [Ch.row_drop h, Ch.eachF, if_neg (by rw [hf]; exact Bool.false_ne_true)]
theorem Ch.each_end {rs : List Ch.Row} {k : Nat} (h : rs.length ≤ k) : Ch.eachF (rs.drop k) = 0 := by
  rw [List.drop_of_length_le h]; rfl
theorem Ch.each_ok {rs : List Ch.Row} (h : Ch.eachF rs = 0) : ∀ r ∈ rs, r.fault = 0 := by
  induction rs with
  | nil => intro b hb; cases hb
  | cons c bs ih =>
    rw [Ch.eachF] at h
    by_cases hc : (c.fault != 0) = true
    · rw [if_pos hc] at h; simp [h] at hc
    · rw [if_neg hc] at h
      intro b hb
      rcases List.mem_cons.1 hb with rfl | hb
      · simpa using hc
      · exact ih h b hb
theorem Ch.each_zero {rs : List Ch.Row} (h : ∀ r ∈ rs, r.fault = 0) : Ch.eachF rs = 0 := by
  induction rs with
  | nil => rfl
  | cons c bs ih =>
    rw [Ch.eachF, h c (List.mem_cons_self ..)]
    exact ih (fun r hr => h r (List.mem_cons_of_mem _ hr))
theorem Ch.each_getD {rs : List Ch.Row} (h : Ch.eachF rs = 0) (k : Nat) (hk : k < rs.length) : ((rs.getD k Ch.Row.zero).fault != 0) = false := by
  have : rs.getD k Ch.Row.zero ∈ rs := by simp [List.getD, hk]
  rw [Ch.each_ok h _ this]; rfl
theorem Ch.rise_two {rs : List Ch.Row} {p : Option Int} (h : ∀ r ∈ rs, r.fault = 0) : Ch.riseFrom p rs = 0 ∨ Ch.riseFrom p rs = 1 := by
  induction rs generalizing p with
  | nil => left; cases p <;> rfl
  | cons r rs ih =>
    rw [Ch.riseFrom_cons, h r (List.mem_cons_self ..)]
    by_cases hl : Ch.low p r.k = true
    · right; simp [hl]
    · simp only [hl]
      exact ih (fun x hx => h x (List.mem_cons_of_mem _ hx))
theorem Ch.mapF_many {rs : List Ch.Row} (h : 240 < rs.length) : Ch.mapF rs = 2 := by rw [Ch.mapF, if_pos h]
theorem Ch.mapF_each {rs : List Ch.Row} (h : ¬ 240 < rs.length) (hf : (Ch.eachF rs != 0) = true) : Ch.mapF rs = Ch.eachF rs := by rw [Ch.mapF, if_neg h, if_pos hf]
theorem Ch.mapF_rise {rs : List Ch.Row} (h : ¬ 240 < rs.length) (hf : Ch.eachF rs = 0) : Ch.mapF rs = Ch.rise rs := by rw [Ch.mapF, if_neg h, hf]; rfl
theorem Ch.mapRR_code {rs : List Ch.Row} {c : Int} (h : Ch.mapF rs = c) (hc : (c != 0) = true) : Ch.mapRR rs = (c, []) := by rw [Ch.mapRR, h, if_pos hc]
theorem Ch.mapRR_ok {rs : List Ch.Row} (h : Ch.mapF rs = 0) : Ch.mapRR rs = (0, Ch.noGhost rs) := by rw [Ch.mapRR, h]; rfl
theorem Ch.noGhost_yes {rs : List Ch.Row} {k : Nat} (h : k < rs.length) (hin : (rs.getD k Row.zero).g = false) : Ch.noGhost (rs.take (k + 1)) = Ch.noGhost (rs.take k) ++ [rs.getD k Row.zero] := by
  rw [take_snoc rs Row.zero k h]; generalize rs.getD k Row.zero = r at *; unfold Ch.noGhost; rw [List.filter_append]; simp [hin]
theorem Ch.noGhost_no {rs : List Ch.Row} {k : Nat} (h : k < rs.length) (hin : (rs.getD k Row.zero).g = true) : Ch.noGhost (rs.take (k + 1)) = Ch.noGhost (rs.take k) := by
  rw [take_snoc rs Row.zero k h]; generalize rs.getD k Row.zero = r at *; unfold Ch.noGhost; rw [List.filter_append]; simp [hin]
theorem Ch.noGhost_len (rs : List Ch.Row) : (Ch.noGhost rs).length ≤ rs.length := List.length_filter_le _ _
theorem Ch.mapF_len {rs : List Ch.Row} (h : Ch.mapF rs = 0) : rs.length ≤ 240 := by
  unfold Ch.mapF at h
  by_cases hb : 240 < rs.length
  · rw [if_pos hb] at h; omega
  · omega

/-! Blocks -/
theorem rowTwo {W : World} {g : Nat} {t : TypeId} {u0 u1 : Value} (h : W.heap[g]? = some (.cells #[u0, u1] t (0, 0))) :
    W.cell? ⟨g, 0, none⟩ = some u0 ∧ W.cell? ⟨g, 1, none⟩ = some u1 ∧ W.frozen? ⟨g, 0, none⟩ = false ∧ W.frozen? ⟨g, 1, none⟩ = false :=
  ⟨cell_of_row _ _ _ _ _ _ h, cell_of_row _ _ _ _ _ _ h, by simp [World.frozen?, h], by simp [World.frozen?, h]⟩
theorem own_apart {w : World} {base : Nat} {e : TypeId} {size : Nat} {v : Value} {n : Nat} {xs : List Value} (h : w.ownsRow base e size v n xs) {b : Nat} (hb : b < base) : v.ownBlock ≠ some b := fun e => by
  have := (owns_lt h b e).1
  omega
theorem block_below {w w' : World} (hb : Below w.heap.size w w') {b : Nat} {o : Obj} (h : w.heap[b]? = some o) : w'.heap[b]? = some o :=
  (hb.block b (Array.getElem?_eq_some_iff.1 h).1).trans h
theorem block_grown {w w' : World} {row : Option Nat} {b : Nat} {o : Obj} (hg : w.grownBy w' row) (h : w.heap[b]? = some o) (hne : row ≠ some b) : w'.heap[b]? = some o :=
  (hg.block b (Array.getElem?_eq_some_iff.1 h).1 (fun e => hne e.symm)).trans h

/-! The program -/
set_option maxHeartbeats 2000000 in
theorem mapFault_any (a : Option Addr) (n cap : Nat) (rs : List Ch.Row) (w : World) (h : CellsAt w a (n * 3) (rcells rs)) (hn : n ≤ 1048576) :
    Calls Try.prog 71 #[.slice a n cap] w fun e w' => e = .returned (.int .i64 (Ch.mapF rs)) ∧ Below w.heap.size w w' := by
  have HL := h.rlen
  by_cases hbig : 240 < n
  · have HF : Hid (Ch.mapF rs = 2) := Ch.mapF_many (by have := HL.out; omega)
    go_enter Try.func71, Try.ntmps71
    go_wp2
    go_ret
    exact ⟨ret_int HF.out.symm, Below.refl _ _⟩
  have hn4 : n ≤ 240 := by omega
  have HA : Hid ((Ch.eachF rs != 0) = true → Ch.mapF rs = Ch.eachF rs) := fun hf => Ch.mapF_each (by have := HL.out; omega) hf
  have HB : Hid (Ch.eachF rs = 0 → Ch.mapF rs = Ch.rise rs) := fun hf => Ch.mapF_rise (by have := HL.out; omega) hf
  clear hbig
  go_enter Try.func71, Try.ntmps71
  go_wp2
  go_loopw [13] (fun i wr => ∃ k : Nat, k ≤ n ∧ i = .int .i64 k ∧ Hid (Ch.eachF rs = Ch.eachF (rs.drop k)) ∧ Below w.heap.size w wr) (fun i _ => n - (intOf i).toNat)
  case atStart => exact ⟨0, Nat.zero_le _, rfl, rfl, Below.refl _ _⟩
  case round =>
    obtain ⟨k, hk, rfl, HH, hB⟩ := hrel
    by_cases hlt : k < n
    · have hkl : k < rs.length := by have := HL.out; omega
      have HS := hid (fun he => HH.out.trans (Ch.each_at hkl he))
      have HN := hid (fun he => HH.out.trans (Ch.each_on hkl he))
      obtain ⟨b, off, rfl, q0, q1, q2⟩ := (h.below hB).row hlt
      have hbl := lt_of_cell q0
      generalize rs.getD k Ch.Row.zero = r at *
      obtain ⟨rk, rv, rg⟩ := r
      simp only [Ch.Row.fault] at q0 q1 q2 HS HN
      have IF := fun W => implRow_any rk rv rg W
      cases hf : (Ch.rowFault rk rv rg != 0)
      · replace HN := hid (HN.out hf)
        clear HS
        generalize Ch.rowFault rk rv rg = c at *
        go_wp2_with fail
        refine (IF _).mono ?_
        rintro e w1 ⟨rfl, b1⟩
        have bE := hB.trans ((below_box b1).mono hB.size)
        go_wp2
        go_roundw
        case rel => exact ⟨k + 1, by omega, by go_num, HN.out, bE⟩
        case measure => simp [intOf]; omega
      · replace HS := hid (HS.out hf)
        have HZ := hid (HA.out (by rw [HS.out]; exact hf))
        replace HZ := hid (HZ.out.trans HS.out)
        clear HN HS
        generalize Ch.rowFault rk rv rg = c at *
        go_wp2_with fail
        refine (IF _).mono ?_
        rintro e w1 ⟨rfl, b1⟩
        have bE := hB.trans ((below_box b1).mono hB.size)
        go_wp2
        go_ret
        exact ⟨ret_int HZ.out.symm, bE⟩
    · obtain rfl : k = n := by omega
      have HZ := hid (HH.out.trans (Ch.each_end (by have := HL.out; omega)))
      have HM := hid (HB.out HZ.out)
      clear HA HB HH
      go_wp2
      go_loopw [25] (fun i wr => ∃ j : Nat, j ≤ k ∧ i = .int .i64 j ∧ Hid (Ch.mapF rs = Ch.riseAt rs j) ∧ Below w.heap.size w wr) (fun i _ => k - (intOf i).toNat)
      case atStart => exact ⟨0, Nat.zero_le _, rfl, HM.out, hB⟩
      case round =>
        clear HM hB
        obtain ⟨j, hj, rfl, HR, hB⟩ := hrel
        by_cases hlt : j < k
        · have hjl : j < rs.length := by have := HL.out; omega
          have hff := hid (Ch.each_getD HZ.out j hjl)
          obtain ⟨b, off, rfl, q0, q1, q2⟩ := (h.below hB).row hlt
          have hbl := lt_of_cell q0
          have bE := hB.alloc hB.size (.cells #[.int .i64 (rs.getD j Ch.Row.zero).k, .int .i64 (rs.getD j Ch.Row.zero).v, .bool (rs.getD j Ch.Row.zero).g] 105)
          cases j with
          | zero =>
            have HN := hid (HR.out.trans (Ch.riseAt_first rs hjl hff.out))
            clear hff
            generalize rs.getD 0 Ch.Row.zero = r at *
            obtain ⟨rk, rv, rg⟩ := r
            simp only [Nat.zero_mul, Nat.add_zero] at q0 q1 q2 bE
            have hd : decide ((0 : Int) < ((0 : Nat) : Int)) = false := by simp
            go_wp2
            go_quiet (fail)
            go_wp2
            go_roundw
            case rel => exact ⟨1, by omega, by go_num, HN.out, below_drewN bE _⟩
            case measure => simp [intOf]; omega
          | succ i =>
            have HN : Hid (¬ (rs.getD (i + 1) Ch.Row.zero).k ≤ (rs.getD i Ch.Row.zero).k → Ch.mapF rs = Ch.riseAt rs (i + 1 + 1)) := fun hl => HR.out.trans (Ch.riseAt_on rs i hjl hff.out hl)
            have HM : Hid ((rs.getD (i + 1) Ch.Row.zero).k ≤ (rs.getD i Ch.Row.zero).k → Ch.mapF rs = 1) := fun hl => HR.out.trans (Ch.riseAt_low rs i hjl hff.out hl)
            obtain ⟨b', off', hbo, hp0, _, _⟩ := (h.below hB).row (show i < k by omega)
            simp only [Option.some.injEq, Addr.mk.injEq, and_true] at hbo
            obtain ⟨rfl, rfl⟩ := hbo
            clear hff HR
            generalize rs.getD (i + 1) Ch.Row.zero = r at *
            generalize (rs.getD i Ch.Row.zero).k = pk at *
            obtain ⟨rk, rv, rg⟩ := r
            simp only at q0 q1 q2 bE HN HM
            have hd : (0 : Int) < ((i + 1 : Nat) : Int) := by omega
            by_cases hle : rk ≤ pk
            · replace HM := hid (HM.out hle)
              clear HN
              go_wp2
              go_quiet (fail)
              go_wp2
              go_ret
              exact ⟨ret_int HM.out.symm, below_drewN bE _⟩
            · replace HN := hid (HN.out hle)
              clear HM
              go_wp2
              go_quiet (fail)
              go_wp2
              go_roundw
              case rel => exact ⟨i + 1 + 1, by omega, by go_num, HN.out, below_drewN bE _⟩
              case measure => simp [intOf]; omega
        · obtain rfl : j = k := by omega
          have HE := hid (HR.out.trans (Ch.riseAt_end _ _ (by have := HL.out; omega)))
          go_wp2
          go_ret
          exact ⟨ret_int HE.out.symm, hB⟩

set_option linter.unusedSimpArgs false in
set_option maxRecDepth 20000 in
set_option maxHeartbeats 4000000 in
theorem implMapOf_any (a : Option Addr) (n cap : Nat) (rs : List Ch.Row) (w : World) (h : CellsAt w a (n * 3) (rcells rs)) (hn : n ≤ 1048576) :
    Calls Try.prog 19 #[.slice a n cap] w fun e w' => ∃ a' m c', e = .returned (.agg #[.int .i64 (Ch.mapRR rs).1, .slice a' m c']) ∧ m ≤ 1048576 ∧ w'.ownsRow w.heap.size 105 3 (.slice a' m c') m (rcells (Ch.mapRR rs).2) ∧ Below w.heap.size w w' := by
  have IA := fun W hW => mapFault_any a n cap rs W hW hn
  have kA : ∀ o, Below w.heap.size w (w.alloc o) := fun o => (Below.refl _ _).alloc (Nat.le_refl _) o
  have HL := h.rlen
  obtain ⟨c, HC⟩ : ∃ c, Hid (Ch.mapF rs = c) := ⟨_, rfl⟩
  rw [HC.out] at IA
  by_cases h0 : c = 0
  · subst h0
    rw [Ch.mapRR_ok HC.out]
    have hn4 : n ≤ 240 := by have := Ch.mapF_len HC.out; have := HL.out; omega
    clear HC
    go_enter Try.func19, Try.ntmps19
    go_wp2_with fail
    refine (IA _ (h.below (kA _))).mono ?_
    rintro e w1 ⟨rfl, b1⟩
    have hR := block_below b1 (heap_alloc_new w _)
    have b1 := below_box b1
    have lz := (Array.getElem?_eq_some_iff.1 hR).1
    obtain ⟨x0, x1, f0, f1⟩ := rowTwo hR
    clear IA
    go_wp2
    go_loopw [15] (fun i wr => ∃ (k m : Nat) (a' : Option Addr) (c' : Nat), k ≤ n ∧ m ≤ k ∧ i = .int .i64 k ∧ wr.heap[w.heap.size]? = some (.cells #[.int .i64 0, .slice none 0 0] 44 (0, 0)) ∧ wr.heap[w1.heap.size]? = some (.cells #[.int .i64 0, .slice a' m c'] 44 (0, 0)) ∧ wr.ownsRow (w1.heap.size + 1) 105 3 (.slice a' m c') m (rcells (Ch.noGhost (rs.take k))) ∧ w1.heap.size < wr.heap.size ∧ Below w.heap.size w wr) (fun i _ => n - (intOf i).toNat)
    case atStart => exact ⟨0, 0, none, 0, Nat.zero_le _, Nat.le_refl _, rfl, (Below.heap_alloc w1 _ _ lz).trans hR, heap_alloc_new w1 _, World.ownsRow_nil _ _ _ _, by simp, b1.alloc b1.size _⟩
    case round =>
      clear hR x0 x1 f0 f1
      obtain ⟨k, m, a', c', hk, hmk, rfl, hR, hX, own, hsz, hB⟩ := hrel
      obtain ⟨x0, x1, f0, f1⟩ := rowTwo hR
      obtain ⟨y0, y1, g0, g1⟩ := rowTwo hX
      have lr := (Array.getElem?_eq_some_iff.1 hR).1
      by_cases hlt : k < n
      · have hkl : k < rs.length := by have := HL.out; omega
        have HY := hid (fun he => Ch.noGhost_yes hkl he)
        have HN := hid (fun he => Ch.noGhost_no hkl he)
        obtain ⟨b, off, rfl, q0, q1, q2⟩ := (h.below hB).row hlt
        have hbl := lt_of_cell q0
        generalize rs.getD k Ch.Row.zero = r at *
        obtain ⟨rk, rv, rg⟩ := r
        simp only at q0 q1 q2 HY HN
        generalize Ch.noGhost (rs.take k) = zs at *
        have hsum : m + 1 ≤ 2097152 := by omega
        cases rg
        · replace HY := hid (HY.out rfl)
          clear HN
          have kQ : Below wr.heap.size wr ((wr.alloc (.cells #[.int .i64 rk, .int .i64 rv, .bool false] 105)).alloc (.cells #[.int .i64 rk, .int .i64 rv, .bool false] 105)) := ((Below.refl _ _).alloc (Nat.le_refl _) _).alloc (by simp) _
          have own3 := owns_below own kQ
          have hX3 := block_below kQ hX
          have hR3 := block_below kQ hR
          have hC3 := new_row (w := wr.alloc (.cells #[.int .i64 rk, .int .i64 rv, .bool false] 105)) (r := ⟨rk, rv, false⟩) (t := 105) (H := wr.heap.size + 1) (by simp)
          have hb3 : w1.heap.size + 1 ≤ ((wr.alloc (.cells #[.int .i64 rk, .int .i64 rv, .bool false] 105)).alloc (.cells #[.int .i64 rk, .int .i64 rv, .bool false] 105)).heap.size := by simp; omega
          go_wp2_with (at_builtin; go_must (refine wpList_appG (.tmp 23) (.tmp 25) (w1.heap.size + 1) (.slice a' m c') m zs 1 [⟨rk, rv, false⟩] hsum (by omega) ?_ ?_ ?_ ?_ own3 hb3 ?_; exact rfl; exact rfl; exact rfl; exact ⟨_, _, rfl, hC3⟩; intro a5 c5 w5 own5 gr5 at5; have hX5 := block_grown gr5 hX3 (own_apart own3 (by omega)); have hR5 := block_grown gr5 hR3 (own_apart own3 (by omega)); obtain ⟨v0, v1, e0, e1⟩ := rowTwo hX5; have lv := lt_of_cell v0))
          go_roundw
          case rel =>
            rw [← HY.out] at own5
            have b3 := (hB.alloc hB.size (.cells #[.int .i64 rk, .int .i64 rv, .bool false] 105)).alloc (by simp; exact Nat.le_trans hB.size (by omega)) (.cells #[.int .i64 rk, .int .i64 rv, .bool false] 105)
            have b5 := b3.grown gr5 b3.size (fun g hg => by have := (owns_lt own3 g hg).1; omega)
            refine ⟨k + 1, m + 1, a5, c5, by omega, by omega, by go_num, ?_, ?_, ?_, ?_, b5.setCell (p := ⟨w1.heap.size, 1, none⟩) (by show w.heap.size ≤ w1.heap.size; omega) _⟩
            · exact (Below.heap_setCell _ _ _ _ (by show w.heap.size ≠ w1.heap.size; omega)).trans hR5
            · have := Joins.block_setCell (i := 1) hX5 (.slice a5 (m + 1) c5)
              simpa using this
            · exact ownsRow_setCell_below own5 (by show w1.heap.size < w1.heap.size + 1; omega) _
            · have := gr5.size; simp at this ⊢; omega
          case measure => simp [intOf]; omega
        · replace HN := hid (HN.out rfl)
          clear HY
          have kE : Below wr.heap.size wr (wr.alloc (.cells #[.int .i64 rk, .int .i64 rv, .bool true] 105)) := (Below.refl _ _).alloc (Nat.le_refl _) _
          go_wp2
          go_roundw
          case rel => exact ⟨k + 1, m, a', c', by omega, by omega, by go_num, block_below kE hR, block_below kE hX, by rw [HN.out]; exact owns_below own kE, Nat.lt_of_lt_of_le hsz kE.size, hB.trans (kE.mono hB.size)⟩
          case measure => simp [intOf]; omega
      · obtain rfl : k = n := by omega
        have HWF : Hid (rs.take k = rs) := by have := HL.out; show _ = _; rw [this]; exact List.take_length
        rw [HWF.out] at own
        go_wp2
        refine bodyPost_ret (v := .agg #[.int .i64 0, .slice a' m c']) (by simp [results, Try.results19, go_sem, x0, x1]) rfl ⟨a', m, c', rfl, by omega, ?_, ?_⟩
        · refine owns_base (base := w1.heap.size + 1) (ownsRow_setCell_below (ownsRow_setCell_below own ?_ _) ?_ _) (by omega)
          · show w.heap.size < w1.heap.size + 1; omega
          · show w.heap.size < w1.heap.size + 1; omega
        · exact (hB.setCell (p := ⟨w.heap.size, 0, none⟩) (Nat.le_refl _) _).setCell (p := ⟨w.heap.size, 1, none⟩) (Nat.le_refl _) _
  · rw [Ch.mapRR_code HC.out (by simpa using h0)]
    clear HC
    go_enter Try.func19, Try.ntmps19
    go_wp2_with fail
    refine (IA _ (h.below (kA _))).mono ?_
    rintro e w1 ⟨rfl, b1⟩
    have hR := block_below b1 (heap_alloc_new w _)
    have b1 := below_box b1
    have lz := (Array.getElem?_eq_some_iff.1 hR).1
    obtain ⟨x0, x1, f0, f1⟩ := rowTwo hR
    go_wp2
    exact bodyPost_ret (v := .agg #[.int .i64 c, .slice none 0 0]) (by simp [results, Try.results19, go_sem, x0, x1]) rfl ⟨none, 0, 0, rfl, by omega, World.ownsRow_nil _ _ _ _, (b1.setCell (p := ⟨w.heap.size, 0, none⟩) (Nat.le_refl _) _).setCell (p := ⟨w.heap.size, 1, none⟩) (Nat.le_refl _) _⟩

/-! The model -/
set_option maxHeartbeats 1600000 in
theorem l8Map_any (a : Option Addr) (n cap : Nat) (rs : List Ch.Row) (w : World) (h : CellsAt w a (n * 3) (rcells rs)) (hn : n ≤ 240) :
    Calls Try.prog 121 #[.slice a n cap] w fun e w' => ∃ a' m c', e = .returned (.slice a' m c') ∧ m ≤ 240 ∧ w'.ownsRow w.heap.size 105 3 (.slice a' m c') m (rcells (Ch.noGhost rs)) ∧ Below w.heap.size w w' := by
  have HL := h.rlen
  have o0 := empty_rows w w.heap.size (Nat.le_refl _)
  have b0 : Below w.heap.size w (w.alloc (.cells #[] 105)) := (Below.refl _ _).alloc (Nat.le_refl _) _
  go_enter Try.func121, Try.ntmps121
  go_wp2
  go_loopw [3, 4] (fun q i wr => ∃ (k m : Nat) (a' : Option Addr) (c' : Nat), k ≤ n ∧ m ≤ k ∧ i = .int .i64 k ∧ q = .slice a' m c' ∧ wr.ownsRow w.heap.size 105 3 (.slice a' m c') m (rcells (Ch.noGhost (rs.take k))) ∧ Below w.heap.size w wr) (fun _ i _ => n - (intOf i).toNat)
  case atStart => exact ⟨0, 0, _, _, Nat.zero_le _, Nat.le_refl _, rfl, rfl, by simpa [Ch.noGhost] using o0, b0⟩
  case round =>
    obtain ⟨k, m, a', c', hk, hmk, rfl, rfl, own, hB⟩ := hrel
    by_cases hlt : k < n
    · have hkl : k < rs.length := by have := HL.out; omega
      have HY := hid (fun he => Ch.noGhost_yes hkl he)
      have HN := hid (fun he => Ch.noGhost_no hkl he)
      obtain ⟨b, off, rfl, q0, q1, q2⟩ := (h.below hB).row hlt
      have hbl := lt_of_cell q0
      generalize rs.getD k Ch.Row.zero = r at *
      obtain ⟨rk, rv, rg⟩ := r
      simp only at q0 q1 q2 HY HN
      generalize Ch.noGhost (rs.take k) = zs at *
      have hsum : m + 1 ≤ 2097152 := by omega
      cases rg
      · replace HY := hid (HY.out rfl)
        clear HN
        have bA : ∀ o, Below wr.heap.size wr (wr.alloc o) := fun o => (Below.refl _ _).alloc (Nat.le_refl _) _
        have hwB := hB.size
        go_wp2_with (at_builtin; go_must (refine wpList_appG (.tmp 18) (.tmp 23) w.heap.size (.slice a' m c') m zs 1 [⟨rk, rv, false⟩] hsum (by omega) ?_ ?_ ?_ ?_ ?_ ?_ ?_; exact rfl; exact rfl; exact rfl; exact ⟨_, _, rfl, new_row (r := ⟨rk, rv, false⟩) rfl⟩; exact owns_below own (bA _); (focus (simp; omega)); intro a3 c3 w3 own3 gr3 at3))
        go_roundw
        case rel =>
          refine ⟨k + 1, m + 1, a3, c3, by omega, by omega, by go_num, rfl, by rw [HY.out]; exact own3, ?_⟩
          exact (hB.alloc hB.size _).grown gr3 (by simp; omega) (fun g hg => (owns_lt own g hg).1)
        case measure => simp [intOf]; omega
      · replace HN := hid (HN.out rfl)
        clear HY
        go_wp2
        go_roundw
        case rel => exact ⟨k + 1, m, a', c', by omega, by omega, by go_num, rfl, by rw [HN.out]; exact own, hB⟩
        case measure => simp [intOf]; omega
    · obtain rfl : k = n := by omega
      have HWF : Hid (rs.take k = rs) := by have := HL.out; show _ = _; rw [this]; exact List.take_length
      rw [HWF.out] at own
      go_wp2
      go_ret
      exact ⟨a', m, c', rfl, by omega, own, hB⟩

end Go.Proofs.Ythfanfnbjldddaa


/- Plain facts of FnSets and FnUndos: what a key has behind a change, and behind what is taken back. -/
namespace Go.Proofs.Ythfanfnbjldddaa.Ch

theorem has_set {ls : List (List Row)} {tx key v : Int} {h : Bool} (hf : setF ls tx [⟨key, h, v⟩] = 0) (hs : (setLs ls key h v).1 = 0) (k : Int) :
    Ch.has (setLs ls key h v).2 k = if k = key then (if h then some v else none) else Ch.has ls k := by
  obtain ⟨hg, _, hk, hv, h0⟩ := setF_zero hf
  cases h
  · cases hfr : findR ls key with
    | none =>
      rw [setLs_none hfr]
      by_cases hkk : k = key
      · subst hkk; rw [if_pos rfl]; simp [Ch.has, hfr]
      · rw [if_neg hkk]
    | some r =>
      have e : setLs ls key false v = (0, put ls ⟨key, 0, true⟩) := by unfold setLs; rw [hfr]; rfl
      rw [e]
      by_cases hkk : k = key
      · subst hkk
        have := put_find (r := ⟨k, 0, true⟩) hg
        simp only at this
        rw [if_pos rfl]
        simp [Ch.has, this]
      · rw [if_neg hkk]
        unfold Ch.has
        rw [put_find_other hg hkk]
  · have e : setLs ls key true v = (0, put ls ⟨key, v, false⟩) := by
      unfold setLs at hs ⊢
      rw [if_pos rfl] at hs ⊢
      by_cases hm : 60 < (put ls ⟨key, v, false⟩).length
      · rw [if_pos hm] at hs; cases hs
      · rw [if_neg hm]
    rw [e]
    by_cases hkk : k = key
    · subst hkk
      have := put_find (r := ⟨k, v, false⟩) hg
      simp only at this
      rw [if_pos rfl]
      simp [Ch.has, this]
    · rw [if_neg hkk]
      unfold Ch.has
      rw [put_find_other hg hkk]
/-- A key that has a row has one behind a change. -/
theorem find_set {ls : List (List Row)} {tx key v : Int} {h : Bool} (hf : setF ls tx [⟨key, h, v⟩] = 0) (hs : (setLs ls key h v).1 = 0) (k : Int) (hx : (findR ls k).isSome = true) : (findR (setLs ls key h v).2 k).isSome = true := by
  obtain ⟨hg, _, hk, hv, h0⟩ := setF_zero hf
  cases h
  · cases hfr : findR ls key with
    | none => rw [setLs_none hfr]; exact hx
    | some r =>
      have e : setLs ls key false v = (0, put ls ⟨key, 0, true⟩) := by unfold setLs; rw [hfr]; rfl
      rw [e]
      by_cases hkk : k = key
      · subst hkk
        have := put_find (r := ⟨k, 0, true⟩) hg
        simp only at this
        simp [this]
      · simp only; rw [put_find_other hg hkk]; exact hx
  · have e : setLs ls key true v = (0, put ls ⟨key, v, false⟩) := by
      unfold setLs at hs ⊢
      rw [if_pos rfl] at hs ⊢
      by_cases hm : 60 < (put ls ⟨key, v, false⟩).length
      · rw [if_pos hm] at hs; cases hs
      · rw [if_neg hm]
    rw [e]
    by_cases hkk : k = key
    · subst hkk
      have := put_find (r := ⟨k, v, false⟩) hg
      simp only at this
      simp [this]
    · simp only; rw [put_find_other hg hkk]; exact hx
theorem has_find {ls : List (List Row)} {key v : Int} (h : Ch.has ls key = some v) : (findR ls key).isSome = true := by
  unfold Ch.has at h
  cases hf : findR ls key with
  | none => rw [hf] at h; cases h
  | some r => rfl
theorem has_range {ls : List (List Row)} (hg : leavesFault ls = 0) {key v : Int} (h : Ch.has ls key = some v) : inB v 0 9999 = true := by
  unfold Ch.has at h
  cases hf : findR ls key with
  | none => rw [hf] at h; cases h
  | some r =>
    rw [hf] at h
    simp only at h
    unfold findR at hf
    have hm := List.mem_of_find?_eq_some hf
    have hr := ((good_iff ls).1 hg).2.2.1 r hm
    by_cases hgh : r.g = true
    · rw [if_pos hgh] at h; cases h
    · rw [if_neg hgh] at h
      cases h
      unfold Row.fault rowFault at hr
      cases hv : inB r.v 0 9999
      · rw [hv] at hr
        simp at hr
      · rfl
theorem bf_fine' {ls : List (List Row)} (hg : leavesFault ls = 0) {key : Int} (hk : inB key 0 99 = true) : (bf key (Ch.has ls key)).fault = 0 := by
  cases h : Ch.has ls key with
  | none =>
    unfold bf Bf.fault
    simp [hk, show inB 0 0 9999 = true from by decide]
  | some v =>
    unfold bf Bf.fault
    simp [hk, has_range hg h]
theorem bf_key (key : Int) (o : Option Int) : (bf key o).k = key := by cases o <;> rfl
theorem bf_back (key : Int) (o : Option Int) : (if (bf key o).h then some (bf key o).v else none) = o := by cases o <;> rfl
theorem setF_of {ls : List (List Row)} {tx : Int} {bs : List Bf} (hg : leavesFault ls = 0) (ht : inB tx 1 999 = true) (hb : befFault bs = 0) : setF ls tx bs = 0 := by
  unfold setF
  rw [hg, if_neg (by decide), if_pos ht, hb]

theorem rows_same {a b : List Row} (ha : a.Pairwise fun x y => x.k < y.k) (hb : b.Pairwise fun x y => x.k < y.k) (h : ∀ x, x ∈ a ↔ x ∈ b) : a = b := by
  induction a generalizing b with
  | nil =>
    cases b with
    | nil => rfl
    | cons y b => exact absurd ((h y).2 (by simp)) (by simp)
  | cons x a ih =>
    cases b with
    | nil => exact absurd ((h x).1 (by simp)) (by simp)
    | cons y b =>
      rw [List.pairwise_cons] at ha hb
      have hxy : x = y := by
        rcases List.mem_cons.1 ((h x).1 (by simp)) with e | e
        · exact e
        · rcases List.mem_cons.1 ((h y).2 (by simp)) with e2 | e2
          · exact e2.symm
          · have h1 := hb.1 x e
            have h2 := ha.1 y e2
            omega
      subst hxy
      congr 1
      refine ih ha.2 hb.2 fun z => ?_
      constructor
      · intro hm
        rcases List.mem_cons.1 ((h z).1 (List.mem_cons_of_mem _ hm)) with e | e
        · subst e; have := ha.1 z hm; omega
        · exact e
      · intro hm
        rcases List.mem_cons.1 ((h z).2 (List.mem_cons_of_mem _ hm)) with e | e
        · subst e; have := hb.1 z hm; omega
        · exact e
/-- Which rows are no ghosts: those that a key has. -/
theorem noGhost_mem {ls : List (List Row)} (hg : leavesFault ls = 0) {r : Row} : r ∈ noGhost ls.flatten ↔ r.g = false ∧ Ch.has ls r.k = some r.v := by
  obtain ⟨_, _, _, hp⟩ := (good_iff ls).1 hg
  unfold noGhost
  rw [List.mem_filter]
  constructor
  · rintro ⟨hm, hng⟩
    have hng' : r.g = false := by simpa using hng
    refine ⟨hng', ?_⟩
    have hf : findR ls r.k = some r := by
      unfold findR
      rw [List.find?_eq_some_iff_append]
      obtain ⟨as_, bs_, e⟩ := List.append_of_mem hm
      refine ⟨by simp, as_, bs_, e, fun a ha => ?_⟩
      rw [e, List.pairwise_append] at hp
      have := hp.2.2 a ha r (by simp)
      simp
      omega
    unfold Ch.has
    rw [hf]
    simp [hng']
  · rintro ⟨hng, hh⟩
    unfold Ch.has at hh
    cases hf : findR ls r.k with
    | none => rw [hf] at hh; cases hh
    | some x =>
      rw [hf] at hh
      simp only at hh
      have hxk : x.k = r.k := by
        unfold findR at hf
        have := List.find?_some hf
        simpa using this
      have hxm : x ∈ ls.flatten := by unfold findR at hf; exact List.mem_of_find?_eq_some hf
      by_cases hgh : x.g = true
      · rw [if_pos hgh] at hh; cases hh
      · rw [if_neg hgh] at hh
        have hxg : x.g = false := by simpa using hgh
        have : x = r := by
          cases x; cases r
          simp at hxk hh hxg hng
          simp [hxk, hh, hxg, hng]
        subst this
        exact ⟨hxm, by simp [hng]⟩
theorem noGhost_same {ls ls' : List (List Row)} (hg : leavesFault ls = 0) (hg' : leavesFault ls' = 0) (h : ∀ k, Ch.has ls k = Ch.has ls' k) : noGhost ls.flatten = noGhost ls'.flatten := by
  refine rows_same (((good_iff ls).1 hg).2.2.2.filter _) (((good_iff ls').1 hg').2.2.2.filter _) fun r => ?_
  rw [noGhost_mem hg, noGhost_mem hg', h]
theorem flat_240 {ls : List (List Row)} (hg : leavesFault ls = 0) : ls.flatten.length ≤ 240 := by
  obtain ⟨h1, h2, _, _⟩ := (good_iff ls).1 hg
  have : ∀ (xs : List (List Row)), (∀ l ∈ xs, l.length ≤ 4) → xs.flatten.length ≤ 4 * xs.length := by
    intro xs
    induction xs with
    | nil => intro _; simp
    | cons x xs ih =>
      intro h
      have := ih (fun l hl => h l (List.mem_cons_of_mem _ hl))
      have := h x (List.mem_cons_self ..)
      simp at *; omega
  have := this ls (fun l hl => (h2 l hl).2)
  omega
theorem map_good {ls : List (List Row)} (hg : leavesFault ls = 0) : mapRR ls.flatten = (0, noGhost ls.flatten) := by
  obtain ⟨_, _, h3, h4⟩ := (good_iff ls).1 hg
  refine mapRR_ok ?_
  rw [mapF_rise (by have := flat_240 hg; omega) (each_zero h3)]
  unfold rise
  exact (rise_iff _ _).2 ⟨h3, h4, fun q hq => by cases hq⟩

/-- What is set, and then taken back. -/
theorem sets_tell {ls ls' : List (List Row)} {tx key v : Int} {h : Bool} {rs : List Rec} (hr : setR ls tx key h v = (0, ls', rs)) :
    leavesFault ls = 0 ∧ inB tx 1 999 = true ∧ inB key 0 99 = true ∧ inB v 0 9999 = true ∧ leavesFault ls' = 0 ∧ rs = [setRec 2 ls tx key h v] ∧ (h = false → v = 0) ∧ (∀ k, Ch.has ls' k = if k = key then (if h then some v else none) else Ch.has ls k) ∧
      ∃ ls'', undoR ls' tx [bf key (Ch.has ls key)] = (0, ls'', [setRec 3 ls' tx key (bf key (Ch.has ls key)).h (bf key (Ch.has ls key)).v]) ∧ leavesFault ls'' = 0 ∧ ∀ k, Ch.has ls'' k = Ch.has ls k := by
  by_cases hf : setF ls tx [⟨key, h, v⟩] = 0
  · by_cases hs : (setLs ls key h v).1 = 0
    · rw [setR_ok hf hs] at hr
      simp only [Prod.mk.injEq, true_and] at hr
      obtain ⟨rfl, rfl⟩ := hr
      obtain ⟨hg, ht, hk, hv, h0⟩ := setF_zero hf
      have hg' := setLs_good hf hs
      have hb := bf_fine' hg hk
      have hhs := has_set hf hs
      have hfs := find_set hf hs
      generalize (setLs ls key h v).2 = ls' at *
      refine ⟨hg, ht, hk, hv, hg', rfl, h0, hhs, ?_⟩
      have hbk := bf_key key (Ch.has ls key)
      have hbb := bf_back key (Ch.has ls key)
      have hbs : (bf key (Ch.has ls key)).h = true → (findR ls key).isSome = true := by
        intro e
        cases hh : Ch.has ls key with
        | none => rw [hh] at e; cases e
        | some x => exact has_find hh
      generalize bf key (Ch.has ls key) = b at *
      obtain ⟨bk, bh, bv⟩ := b
      simp only at hbk hbb hbs
      subst hbk
      have hF2 : setF ls' tx [⟨bk, bh, bv⟩] = 0 := setF_of hg' ht (by rw [bef_single]; exact hb)
      have hS2 : (setLs ls' bk bh bv).1 = 0 := by
        cases bh
        · unfold setLs
          simp only [Bool.false_eq_true, if_false]
          split <;> rfl
        · have h1 := hfs bk (hbs rfl)
          have h2 := put_stays hg' ⟨bk, bv, false⟩ h1
          have h3 := ((good_iff ls').1 hg').1
          unfold setLs
          rw [if_pos rfl, h2, if_neg (by omega)]
      have e1 : setR ls' tx bk bh bv = (0, (setLs ls' bk bh bv).2, [setRec 2 ls' tx bk bh bv]) := setR_ok hF2 hS2
      refine ⟨(setLs ls' bk bh bv).2, ?_, setLs_good hF2 hS2, fun k => ?_⟩
      · rw [undoR_ok hF2]
        show backOne tx (0, ls', []) ⟨bk, bh, bv⟩ = _
        rw [back_ok (b := ⟨bk, bh, bv⟩) (by simp only; rw [e1])]
        simp only [e1, List.nil_append]
      · rw [has_set hF2 hS2]
        by_cases hkk : k = bk
        · subst hkk; rw [if_pos rfl]; exact hbb
        · rw [if_neg hkk, hhs, if_neg hkk]
    · rw [setR_many hf rfl (by simpa using hs)] at hr
      simp only [Prod.mk.injEq] at hr
      exact absurd hr.1 hs
  · rw [setR_code rfl (by simpa using hf)] at hr
    simp only [Prod.mk.injEq] at hr
    exact absurd hr.1 hf
end Go.Proofs.Ythfanfnbjldddaa.Ch


/- BeforesFault of the program and of the model. -/
namespace Go.Proofs.Ythfanfnbjldddaa
open Go.RowKit

theorem Ch.bf_range {k v : Int} {h : Bool} (hr : (!Ch.inB k 0 99 || !Ch.inB v 0 9999) = true) : (⟨k, h, v⟩ : Ch.Bf).fault = 3 := by
  unfold Ch.Bf.fault; rw [if_pos hr]
theorem Ch.bf_form {k v : Int} {h : Bool} (hr : (!Ch.inB k 0 99 || !Ch.inB v 0 9999) = false) (hf : (!h && v != 0) = true) : (⟨k, h, v⟩ : Ch.Bf).fault = 1 := by
  unfold Ch.Bf.fault; rw [if_neg (by rw [hr]; exact Bool.false_ne_true), if_pos hf]
theorem Ch.bf_fine {k v : Int} {h : Bool} (hr : (!Ch.inB k 0 99 || !Ch.inB v 0 9999) = false) (hf : (!h && v != 0) = false) : (⟨k, h, v⟩ : Ch.Bf).fault = 0 := by
  unfold Ch.Bf.fault; rw [if_neg (by rw [hr]; exact Bool.false_ne_true), if_neg (by rw [hf]; exact Bool.false_ne_true)]

set_option maxHeartbeats 2000000 in
theorem implBefores_any (a : Option Addr) (n cap : Nat) (bs : List Ch.Bf) (w : World) (h : CellsAt w a (n * 3) (bfcells bs)) (hn : n ≤ 1048576) :
    Calls Try.prog 24 #[.slice a n cap] w fun e w' => e = .returned (.int .i64 (Ch.befFault bs)) ∧ Below w.heap.size w w' := by
  have HL := h.bflen
  by_cases hbig : 40 < n
  · have HF : Hid (Ch.befFault bs = 2) := Ch.bef_big (by have := HL.out; omega)
    go_enter Try.func24, Try.ntmps24
    go_wp2
    go_ret
    exact ⟨ret_int HF.out.symm, Below.refl _ _⟩
  have hn4 : n ≤ 40 := by omega
  clear hbig
  have HF := hid (Ch.bef_few (bs := bs) (by have := HL.out; omega))
  go_enter Try.func24, Try.ntmps24
  go_wp2
  go_loopw [10] (fun i wr => ∃ k : Nat, k ≤ n ∧ i = .int .i64 k ∧ Hid (Ch.befFault bs = Ch.befOne (bs.drop k)) ∧ Below w.heap.size w wr) (fun i _ => n - (intOf i).toNat)
  case atStart => exact ⟨0, Nat.zero_le _, rfl, HF.out, Below.refl _ _⟩
  case round =>
    clear HF
    obtain ⟨k, hk, rfl, HH, hB⟩ := hrel
    by_cases hlt : k < n
    · have hkl : k < bs.length := by have := HL.out; omega
      have HS := hid (fun he => HH.out.trans (Ch.bef_at hkl he))
      have HN := hid (fun he => HH.out.trans (Ch.bef_on hkl he))
      obtain ⟨b, off, rfl, q0, q1, q2⟩ := (h.below hB).bef hlt
      have hbl := lt_of_cell q0
      generalize bs.getD k Ch.Bf.zero = r at *
      obtain ⟨rk, rh, rv⟩ := r
      simp only at q0 q1 q2
      have IT := fun W => isKey_any rk W
      have IM := fun W => isValue_any rv W
      cases ht : Ch.inB rk 0 99
      · rw [ht] at IT
        have HX := hid (Ch.bf_range (k := rk) (v := rv) (h := rh) (by rw [ht]; rfl))
        replace HS := hid (HS.out (by rw [HX.out]; rfl))
        clear HN IM
        go_wp2_with fail
        refine (IT _).mono ?_
        rintro e w' ⟨rfl, rfl⟩
        go_wp2
        go_ret
        exact ⟨ret_int (HS.out.trans HX.out).symm, hB.alloc hB.size _⟩
      rw [ht] at IT
      cases hm : Ch.inB rv 0 9999
      · rw [hm] at IM
        have HX := hid (Ch.bf_range (k := rk) (v := rv) (h := rh) (by rw [ht, hm]; rfl))
        replace HS := hid (HS.out (by rw [HX.out]; rfl))
        clear HN
        go_wp2_with fail
        refine (IT _).mono ?_
        rintro e w' ⟨rfl, rfl⟩
        go_wp2_with fail
        refine (IM _).mono ?_
        rintro e w' ⟨rfl, rfl⟩
        go_wp2
        go_ret
        exact ⟨ret_int (HS.out.trans HX.out).symm, hB.alloc hB.size _⟩
      rw [hm] at IM
      cases rh
      · cases hv : (rv != 0)
        · have HX := hid (Ch.bf_fine (k := rk) (v := rv) (h := false) (by rw [ht, hm]; rfl) (by rw [hv]; rfl))
          replace HN := hid (HN.out (by rw [HX.out]; rfl))
          clear HS
          go_wp2_with fail
          refine (IT _).mono ?_
          rintro e w' ⟨rfl, rfl⟩
          go_wp2_with fail
          refine (IM _).mono ?_
          rintro e w' ⟨rfl, rfl⟩
          go_wp2
          go_roundw
          case rel => exact ⟨k + 1, by omega, by go_num, HN.out, hB.alloc hB.size _⟩
          case measure => simp [intOf]; omega
        · have HX := hid (Ch.bf_form (k := rk) (v := rv) (h := false) (by rw [ht, hm]; rfl) (by rw [hv]; rfl))
          replace HS := hid (HS.out (by rw [HX.out]; rfl))
          clear HN
          go_wp2_with fail
          refine (IT _).mono ?_
          rintro e w' ⟨rfl, rfl⟩
          go_wp2_with fail
          refine (IM _).mono ?_
          rintro e w' ⟨rfl, rfl⟩
          go_wp2
          go_ret
          exact ⟨ret_int (HS.out.trans HX.out).symm, hB.alloc hB.size _⟩
      · have HX := hid (Ch.bf_fine (k := rk) (v := rv) (h := true) (by rw [ht, hm]; rfl) rfl)
        replace HN := hid (HN.out (by rw [HX.out]; rfl))
        clear HS
        go_wp2_with fail
        refine (IT _).mono ?_
        rintro e w' ⟨rfl, rfl⟩
        go_wp2_with fail
        refine (IM _).mono ?_
        rintro e w' ⟨rfl, rfl⟩
        go_wp2
        go_roundw
        case rel => exact ⟨k + 1, by omega, by go_num, HN.out, hB.alloc hB.size _⟩
        case measure => simp [intOf]; omega
    · obtain rfl : k = n := by omega
      have HZ := hid (HH.out.trans (Ch.bef_end (by have := HL.out; omega)))
      go_wp2
      go_ret
      exact ⟨ret_int HZ.out.symm, hB⟩

/-! The model -/

set_option maxHeartbeats 2000000 in
theorem specBefores_any (a : Option Addr) (n cap : Nat) (bs : List Ch.Bf) (w : World) (h : CellsAt w a (n * 3) (bfcells bs)) (hn : n ≤ 1048576) :
    Calls Try.prog 73 #[.slice a n cap] w fun e w' => e = .returned (.int .i64 (Ch.befFault bs)) ∧ Below w.heap.size w w' := by
  have HL := h.bflen
  by_cases hbig : 40 < n
  · have HF : Hid (Ch.befFault bs = 2) := Ch.bef_big (by have := HL.out; omega)
    go_enter Try.func73, Try.ntmps73
    go_wp2
    go_ret
    exact ⟨ret_int HF.out.symm, Below.refl _ _⟩
  have hn4 : n ≤ 40 := by omega
  clear hbig
  have HF := hid (Ch.bef_few (bs := bs) (by have := HL.out; omega))
  go_enter Try.func73, Try.ntmps73
  go_wp2
  go_loopw [3] (fun i wr => ∃ k : Nat, k ≤ n ∧ i = .int .i64 k ∧ Hid (Ch.befFault bs = Ch.befOne (bs.drop k)) ∧ Below w.heap.size w wr) (fun i _ => n - (intOf i).toNat)
  case atStart => exact ⟨0, Nat.zero_le _, rfl, HF.out, Below.refl _ _⟩
  case round =>
    clear HF
    obtain ⟨k, hk, rfl, HH, hB⟩ := hrel
    by_cases hlt : k < n
    · have hkl : k < bs.length := by have := HL.out; omega
      have HS := hid (fun he => HH.out.trans (Ch.bef_at hkl he))
      have HN := hid (fun he => HH.out.trans (Ch.bef_on hkl he))
      obtain ⟨b, off, rfl, q0, q1, q2⟩ := (h.below hB).bef hlt
      have hbl := lt_of_cell q0
      generalize bs.getD k Ch.Bf.zero = r at *
      obtain ⟨rk, rh, rv⟩ := r
      simp only at q0 q1 q2
      have IT := fun W => key_any rk W
      have IM := fun W => value_any rv W
      cases ht : Ch.inB rk 0 99
      · rw [ht] at IT
        have HX := hid (Ch.bf_range (k := rk) (v := rv) (h := rh) (by rw [ht]; rfl))
        replace HS := hid (HS.out (by rw [HX.out]; rfl))
        clear HN IM
        go_wp2_with fail
        refine (IT _).mono ?_
        rintro e w' ⟨rfl, rfl⟩
        go_wp2
        go_ret
        exact ⟨ret_int (HS.out.trans HX.out).symm, hB⟩
      rw [ht] at IT
      cases hm : Ch.inB rv 0 9999
      · rw [hm] at IM
        have HX := hid (Ch.bf_range (k := rk) (v := rv) (h := rh) (by rw [ht, hm]; rfl))
        replace HS := hid (HS.out (by rw [HX.out]; rfl))
        clear HN
        go_wp2_with fail
        refine (IT _).mono ?_
        rintro e w' ⟨rfl, rfl⟩
        go_wp2_with fail
        refine (IM _).mono ?_
        rintro e w' ⟨rfl, rfl⟩
        go_wp2
        go_ret
        exact ⟨ret_int (HS.out.trans HX.out).symm, hB⟩
      rw [hm] at IM
      cases rh
      · cases hv : (rv != 0)
        · have HX := hid (Ch.bf_fine (k := rk) (v := rv) (h := false) (by rw [ht, hm]; rfl) (by rw [hv]; rfl))
          replace HN := hid (HN.out (by rw [HX.out]; rfl))
          clear HS
          go_wp2_with fail
          refine (IT _).mono ?_
          rintro e w' ⟨rfl, rfl⟩
          go_wp2_with fail
          refine (IM _).mono ?_
          rintro e w' ⟨rfl, rfl⟩
          go_wp2
          go_roundw
          case rel => exact ⟨k + 1, by omega, by go_num, HN.out, hB⟩
          case measure => simp [intOf]; omega
        · have HX := hid (Ch.bf_form (k := rk) (v := rv) (h := false) (by rw [ht, hm]; rfl) (by rw [hv]; rfl))
          replace HS := hid (HS.out (by rw [HX.out]; rfl))
          clear HN
          go_wp2_with fail
          refine (IT _).mono ?_
          rintro e w' ⟨rfl, rfl⟩
          go_wp2_with fail
          refine (IM _).mono ?_
          rintro e w' ⟨rfl, rfl⟩
          go_wp2
          go_ret
          exact ⟨ret_int (HS.out.trans HX.out).symm, hB⟩
      · have HX := hid (Ch.bf_fine (k := rk) (v := rv) (h := true) (by rw [ht, hm]; rfl) rfl)
        replace HN := hid (HN.out (by rw [HX.out]; rfl))
        clear HS
        go_wp2_with fail
        refine (IT _).mono ?_
        rintro e w' ⟨rfl, rfl⟩
        go_wp2_with fail
        refine (IM _).mono ?_
        rintro e w' ⟨rfl, rfl⟩
        go_wp2
        go_roundw
        case rel => exact ⟨k + 1, by omega, by go_num, HN.out, hB⟩
        case measure => simp [intOf]; omega
    · obtain rfl : k = n := by omega
      have HZ := hid (HH.out.trans (Ch.bef_end (by have := HL.out; omega)))
      go_wp2
      go_ret
      exact ⟨ret_int HZ.out.symm, hB⟩
end Go.Proofs.Ythfanfnbjldddaa


/- ValueIn and BeforeOf, of the program and of the model. -/
namespace Go.Proofs.Ythfanfnbjldddaa
open Go.RowKit

/-- A box of two cells, behind what only makes memory. -/
theorem two_box {w w1 : World} {t : TypeId} {c0 c1 : Value} (b : Below (w.alloc (.cells #[c0, c1] t)).heap.size (w.alloc (.cells #[c0, c1] t)) w1) :
    w1.cell? ⟨w.heap.size, 0, none⟩ = some c0 ∧ w1.cell? ⟨w.heap.size, 1, none⟩ = some c1 ∧ w1.frozen? ⟨w.heap.size, 0, none⟩ = false ∧ w1.frozen? ⟨w.heap.size, 1, none⟩ = false := by
  obtain ⟨cA, fA⟩ := bcell b
  have x0 := cA w.heap.size 0 (by simp)
  have x1 := cA w.heap.size 1 (by simp)
  have f0 := fA w.heap.size 0 (by simp)
  have f1 := fA w.heap.size 1 (by simp)
  simp [go_sem] at x0 x1 f0 f1
  exact ⟨x0, x1, f0, f1⟩
/-- A box of three cells, behind what only makes memory. -/
theorem three_box {w w1 : World} {t : TypeId} {c0 c1 c2 : Value} (b : Below (w.alloc (.cells #[c0, c1, c2] t)).heap.size (w.alloc (.cells #[c0, c1, c2] t)) w1) :
    w1.cell? ⟨w.heap.size, 0, none⟩ = some c0 ∧ w1.cell? ⟨w.heap.size, 1, none⟩ = some c1 ∧ w1.cell? ⟨w.heap.size, 2, none⟩ = some c2 ∧ w1.frozen? ⟨w.heap.size, 0, none⟩ = false ∧ w1.frozen? ⟨w.heap.size, 1, none⟩ = false ∧ w1.frozen? ⟨w.heap.size, 2, none⟩ = false := by
  obtain ⟨cA, fA⟩ := bcell b
  have x0 := cA w.heap.size 0 (by simp)
  have x1 := cA w.heap.size 1 (by simp)
  have x2 := cA w.heap.size 2 (by simp)
  have f0 := fA w.heap.size 0 (by simp)
  have f1 := fA w.heap.size 1 (by simp)
  have f2 := fA w.heap.size 2 (by simp)
  simp [go_sem] at x0 x1 x2 f0 f1 f2
  exact ⟨x0, x1, x2, f0, f1, f2⟩

set_option linter.unusedSimpArgs false in
set_option maxHeartbeats 2000000 in
theorem implValueIn_any (a : Option Addr) (n cap : Nat) (key : Int) (ls : List (List Ch.Row)) (w : World) (h : LvAt w a n ls) (hs : Ch.lvSize ls ≤ 1048576) :
    Calls Try.prog 16 #[.slice a n cap, .int .i64 key] w fun e w' => e = .returned (.agg #[.int .i64 (Ch.valR ls key).1, .int .i64 (Ch.valR ls key).2]) ∧ Below w.heap.size w w' := by
  have b0 : Below w.heap.size w (w.alloc (.cells #[.int .i64 0, .int .i64 0] 35)) := (Below.refl _ _).alloc (Nat.le_refl _) _
  have FI := fun W hW => implFindRow_any a n cap key ls W hW hs
  cases hc : (Ch.asked ls key != 0)
  · cases hf : Ch.findR ls key with
    | none =>
      rw [Ch.valR_none hc (Ch.has_none hf)]
      rw [Ch.findRR_none hc hf] at FI
      clear hc hf
      go_enter Try.func16, Try.ntmps16
      go_wp2_with fail
      refine (FI _ (h.below b0)).mono ?_
      rintro e w1 ⟨a', m, c', rfl, hm, own, b1⟩
      obtain ⟨x0, x1, f0, f1⟩ := two_box b1
      have hz := lt_of_cell x0
      have bE := b0.trans (b1.mono b0.size)
      clear b1 own FI
      go_wp2
      exact bodyPost_ret (v := .agg #[.int .i64 4, .int .i64 0]) (by simp [results, Try.results16, go_sem, x0, x1, hz]) rfl ⟨rfl, Below.alloc ((bE.setCell (p := ⟨w.heap.size, 0, none⟩) (Nat.le_refl _) _).setCell (p := ⟨w.heap.size, 1, none⟩) (Nat.le_refl _) _) (by simp; omega) _⟩
    | some r =>
      obtain ⟨rk, rv, rg⟩ := r
      rw [Ch.findRR_some hc hf] at FI
      cases rg
      · rw [Ch.valR_some hc (Ch.has_row hf)]
        clear hc hf
        go_enter Try.func16, Try.ntmps16
        go_wp2_with fail
        refine (FI _ (h.below b0)).mono ?_
        rintro e w1 ⟨a', m, c', rfl, hm, own, b1⟩
        obtain ⟨x0, x1, f0, f1⟩ := two_box b1
        have hz := lt_of_cell x0
        have bE := b0.trans (b1.mono b0.size)
        have hm1 : m = 1 := (owns_cells own).rlen.out
        subst hm1
        obtain ⟨b, off, rfl, q0, q1, q2⟩ := (owns_cells own).row (k := 0) (by omega)
        simp only [Nat.zero_mul, Nat.add_zero, List.getD_cons_zero] at q0 q1 q2
        have hq := lt_of_cell q0
        clear b1 own FI
        go_wp2
        exact bodyPost_ret (v := .agg #[.int .i64 0, .int .i64 rv]) (by simp [results, Try.results16, go_sem, x0, x1, hz]) rfl ⟨rfl, Below.alloc ((bE.setCell (p := ⟨w.heap.size, 0, none⟩) (Nat.le_refl _) _).setCell (p := ⟨w.heap.size, 1, none⟩) (Nat.le_refl _) _) (by simp; omega) _⟩
      · rw [Ch.valR_none hc (Ch.has_ghost hf)]
        clear hc hf
        go_enter Try.func16, Try.ntmps16
        go_wp2_with fail
        refine (FI _ (h.below b0)).mono ?_
        rintro e w1 ⟨a', m, c', rfl, hm, own, b1⟩
        obtain ⟨x0, x1, f0, f1⟩ := two_box b1
        have hz := lt_of_cell x0
        have bE := b0.trans (b1.mono b0.size)
        have hm1 : m = 1 := (owns_cells own).rlen.out
        subst hm1
        obtain ⟨b, off, rfl, q0, q1, q2⟩ := (owns_cells own).row (k := 0) (by omega)
        simp only [Nat.zero_mul, Nat.add_zero, List.getD_cons_zero] at q0 q1 q2
        have hq := lt_of_cell q0
        clear b1 own FI
        go_wp2
        exact bodyPost_ret (v := .agg #[.int .i64 4, .int .i64 0]) (by simp [results, Try.results16, go_sem, x0, x1, hz]) rfl ⟨rfl, Below.alloc ((bE.setCell (p := ⟨w.heap.size, 0, none⟩) (Nat.le_refl _) _).setCell (p := ⟨w.heap.size, 1, none⟩) (Nat.le_refl _) _) (by simp; omega) _⟩
  · rw [Ch.valR_code hc]
    rw [Ch.findRR_code hc] at FI
    generalize Ch.asked ls key = c at *
    go_enter Try.func16, Try.ntmps16
    go_wp2_with fail
    refine (FI _ (h.below b0)).mono ?_
    rintro e w1 ⟨a', m, c', rfl, hm, own, b1⟩
    obtain ⟨x0, x1, f0, f1⟩ := two_box b1
    have hz := lt_of_cell x0
    have bE := b0.trans (b1.mono b0.size)
    clear b1 own FI
    go_wp2
    exact bodyPost_ret (v := .agg #[.int .i64 c, .int .i64 0]) (by simp [results, Try.results16, go_sem, x0, x1, hz]) rfl ⟨rfl, Below.alloc ((bE.setCell (p := ⟨w.heap.size, 0, none⟩) (Nat.le_refl _) _).setCell (p := ⟨w.heap.size, 1, none⟩) (Nat.le_refl _) _) (by simp; omega) _⟩

theorem Ch.bf_some {key v : Int} : Ch.bf key (some v) = ⟨key, true, v⟩ := rfl
theorem Ch.bf_none {key : Int} : Ch.bf key none = ⟨key, false, 0⟩ := rfl

set_option linter.unusedSimpArgs false in
set_option maxHeartbeats 2000000 in
theorem implBeforeOf_any (a : Option Addr) (n cap : Nat) (key : Int) (ls : List (List Ch.Row)) (w : World) (h : LvAt w a n ls) (hs : Ch.lvSize ls ≤ 1048576) :
    Calls Try.prog 15 #[.slice a n cap, .int .i64 key] w fun e w' => e = .returned (.agg #[.int .i64 (Ch.bfOf ls key).k, .bool (Ch.bfOf ls key).h, .int .i64 (Ch.bfOf ls key).v]) ∧ Below w.heap.size w w' := by
  have b0 : ∀ t, Below w.heap.size w ((w.alloc (.cells #[.int .i64 0, .bool false, .int .i64 0] 32)).alloc (.cells #[.int .i64 key] t)) := fun t => Below.alloc (Below.alloc (Below.refl _ w) (Nat.le_refl _) _) (by simp) _
  have VI := fun W hW => implValueIn_any a n cap key ls W hW hs
  cases hc : (Ch.asked ls key != 0)
  · rw [Ch.bfOf_ok hc]
    cases hh : Ch.has ls key with
    | none =>
      rw [Ch.valR_none hc hh] at VI
      rw [Ch.bf_none]
      go_enter Try.func15, Try.ntmps15
      go_wp2_with fail
      refine (implKeys_any a n cap ls _ 1 1 [key] _ (h.below (b0 _)) hs one_key (by omega)).mono ?_
      rintro e w1 ⟨rfl, b1⟩
      obtain ⟨x0, x1, x2, f0, f1, f2⟩ := three_box (below_box b1)
      have hz := lt_of_cell x0
      have bE := (b0 _).trans (b1.mono (b0 _).size)
      rw [askedAll_one]
      generalize Ch.asked ls key = c at *
      clear b1
      go_wp2_with fail
      refine (VI _ (h.below bE)).mono ?_
      rintro e w2 ⟨rfl, b2⟩
      replace x0 := keep_cell b2 x0
      replace x1 := keep_cell b2 x1
      replace x2 := keep_cell b2 x2
      replace f0 := ((bcell b2).2 w.heap.size 0 hz).trans f0
      replace f1 := ((bcell b2).2 w.heap.size 1 hz).trans f1
      replace f2 := ((bcell b2).2 w.heap.size 2 hz).trans f2
      have hz2 := lt_of_cell x0
      have bE2 := bE.trans (b2.mono bE.size)
      clear b2 VI hc hz bE
      go_wp2
      exact bodyPost_ret (v := .agg #[.int .i64 key, .bool false, .int .i64 0]) (by simp [results, Try.results15, go_sem, x0, x1, x2, hz2]) rfl ⟨rfl, Below.alloc (((bE2.setCell (p := ⟨w.heap.size, 0, none⟩) (Nat.le_refl _) _).setCell (p := ⟨w.heap.size, 1, none⟩) (Nat.le_refl _) _).setCell (p := ⟨w.heap.size, 2, none⟩) (Nat.le_refl _) _) (by simp; omega) _⟩
    | some v =>
      rw [Ch.valR_some hc hh] at VI
      rw [Ch.bf_some]
      go_enter Try.func15, Try.ntmps15
      go_wp2_with fail
      refine (implKeys_any a n cap ls _ 1 1 [key] _ (h.below (b0 _)) hs one_key (by omega)).mono ?_
      rintro e w1 ⟨rfl, b1⟩
      obtain ⟨x0, x1, x2, f0, f1, f2⟩ := three_box (below_box b1)
      have hz := lt_of_cell x0
      have bE := (b0 _).trans (b1.mono (b0 _).size)
      rw [askedAll_one]
      generalize Ch.asked ls key = c at *
      clear b1
      go_wp2_with fail
      refine (VI _ (h.below bE)).mono ?_
      rintro e w2 ⟨rfl, b2⟩
      replace x0 := keep_cell b2 x0
      replace x1 := keep_cell b2 x1
      replace x2 := keep_cell b2 x2
      replace f0 := ((bcell b2).2 w.heap.size 0 hz).trans f0
      replace f1 := ((bcell b2).2 w.heap.size 1 hz).trans f1
      replace f2 := ((bcell b2).2 w.heap.size 2 hz).trans f2
      have hz2 := lt_of_cell x0
      have bE2 := bE.trans (b2.mono bE.size)
      clear b2 VI hc hz bE
      go_wp2
      exact bodyPost_ret (v := .agg #[.int .i64 key, .bool true, .int .i64 v]) (by simp [results, Try.results15, go_sem, x0, x1, x2, hz2]) rfl ⟨rfl, Below.alloc (((bE2.setCell (p := ⟨w.heap.size, 0, none⟩) (Nat.le_refl _) _).setCell (p := ⟨w.heap.size, 1, none⟩) (Nat.le_refl _) _).setCell (p := ⟨w.heap.size, 2, none⟩) (Nat.le_refl _) _) (by simp; omega) _⟩
  · rw [Ch.bfOf_code hc]
    go_enter Try.func15, Try.ntmps15
    go_wp2_with fail
    refine (implKeys_any a n cap ls _ 1 1 [key] _ (h.below (b0 _)) hs one_key (by omega)).mono ?_
    rintro e w1 ⟨rfl, b1⟩
    obtain ⟨x0, x1, x2, f0, f1, f2⟩ := three_box (below_box b1)
    have hz := lt_of_cell x0
    have bE := (b0 _).trans (b1.mono (b0 _).size)
    rw [askedAll_one]
    generalize Ch.asked ls key = c at *
    clear b1
    go_wp2
    exact bodyPost_ret (v := .agg #[.int .i64 0, .bool false, .int .i64 0]) (by simp [results, Try.results15, go_sem, x0, x1, x2, hz]) rfl ⟨rfl, ((bE.setCell (p := ⟨w.heap.size, 0, none⟩) (Nat.le_refl _) _).setCell (p := ⟨w.heap.size, 1, none⟩) (Nat.le_refl _) _).setCell (p := ⟨w.heap.size, 2, none⟩) (Nat.le_refl _) _⟩

set_option linter.unusedSimpArgs false in
set_option maxHeartbeats 2000000 in
theorem l8Before_any (a : Option Addr) (n cap : Nat) (key : Int) (ls : List (List Ch.Row)) (w : World) (h : LvAt w a n ls) (hs : Ch.lvSize ls ≤ 1048576) (hg : ∀ k, k < n → (ls.getD k []).length ≠ 0) :
    Calls Try.prog 109 #[.slice a n cap, .int .i64 key] w fun e w' => e = .returned (.agg #[.int .i64 (Ch.bf key (Ch.has ls key)).k, .bool (Ch.bf key (Ch.has ls key)).h, .int .i64 (Ch.bf key (Ch.has ls key)).v]) ∧ Below w.heap.size w w' := by
  have b0 : Below w.heap.size w (w.alloc (.cells #[.int .i64 0, .bool false, .int .i64 0] 32)) := (Below.refl _ _).alloc (Nat.le_refl _) _
  have FI := fun W hW => specFind_any a n cap key ls W hW hs hg
  have HR := hid (fun rk rv hf => congrArg (Ch.bf key) (Ch.has_row (ls := ls) (key := key) (rk := rk) (rv := rv) hf))
  have HG := hid (fun rk rv hf => congrArg (Ch.bf key) (Ch.has_ghost (ls := ls) (key := key) (rk := rk) (rv := rv) hf))
  have HN := hid (fun hf => congrArg (Ch.bf key) (Ch.has_none (ls := ls) (key := key) hf))
  generalize Ch.bf key (Ch.has ls key) = X at *
  go_enter Try.func109, Try.ntmps109
  go_wp2_with fail
  refine (FI _ (h.below b0)).mono ?_
  rintro e w1 ⟨⟨rk, rv, rg⟩, ok, rfl, his, b1⟩
  obtain ⟨x0, x1, x2, f0, f1, f2⟩ := three_box b1
  have hz := lt_of_cell x0
  have bE := b0.trans (b1.mono b0.size)
  clear b1 FI
  rcases his with ⟨rfl, hf⟩ | ⟨rfl, hf⟩
  · cases rg
    · have HX := hid (HR.out _ _ hf)
      clear hf HR HG HN
      go_wp2
      exact bodyPost_ret (v := .agg #[.int .i64 key, .bool true, .int .i64 rv]) (by simp [results, Try.results109, go_sem, x0, x1, x2, hz]) rfl ⟨by rw [HX.out]; rfl, Below.alloc (((bE.setCell (p := ⟨w.heap.size, 0, none⟩) (Nat.le_refl _) _).setCell (p := ⟨w.heap.size, 1, none⟩) (Nat.le_refl _) _).setCell (p := ⟨w.heap.size, 2, none⟩) (Nat.le_refl _) _) (by simp; omega) _⟩
    · have HX := hid (HG.out _ _ hf)
      clear hf HR HG HN
      go_wp2
      exact bodyPost_ret (v := .agg #[.int .i64 key, .bool false, .int .i64 0]) (by simp [results, Try.results109, go_sem, x0, x1, x2, hz]) rfl ⟨by rw [HX.out]; rfl, Below.alloc (((bE.setCell (p := ⟨w.heap.size, 0, none⟩) (Nat.le_refl _) _).setCell (p := ⟨w.heap.size, 1, none⟩) (Nat.le_refl _) _).setCell (p := ⟨w.heap.size, 2, none⟩) (Nat.le_refl _) _) (by simp; omega) _⟩
  · have HX := hid (HN.out hf)
    clear hf HR HG HN
    go_wp2
    exact bodyPost_ret (v := .agg #[.int .i64 key, .bool false, .int .i64 0]) (by simp [results, Try.results109, go_sem, x0, x1, x2, hz]) rfl ⟨by rw [HX.out]; rfl, Below.alloc (((bE.setCell (p := ⟨w.heap.size, 0, none⟩) (Nat.le_refl _) _).setCell (p := ⟨w.heap.size, 1, none⟩) (Nat.le_refl _) _).setCell (p := ⟨w.heap.size, 2, none⟩) (Nat.le_refl _) _) (by simp; omega) _⟩

theorem good_leaves {ls : List (List Ch.Row)} {n : Nat} {key : Int} (hl : n = ls.length) (hc : (Ch.asked ls key != 0) = false) : ∀ k, k < n → (ls.getD k []).length ≠ 0 := by
  intro k hk
  exact (Ch.good_leaf (Ch.asked_good (ls := ls) (key := key) (by simpa using hc)).1 k (by omega)).1

end Go.Proofs.Ythfanfnbjldddaa


/- splitLeaf of the program. -/
namespace Go.Proofs.Ythfanfnbjldddaa
open Go.RowKit

/-- One list is grown, in its own block or in a new one, and put back. -/
theorem OwnV.redo {w w' : World} {B g n cap k : Nat} {vs : List Value} {ls : List (List Ch.Row)} {x x' : Value} {l' : List Ch.Row} (h : OwnV w B (.slice (some ⟨g, 0, none⟩) n cap) n vs ls) (hk : k < n) (hx : vs[k]? = some x) (hg : w.grownBy w' x.ownBlock) (hb : ∀ q, x'.ownBlock = some q → x.ownBlock = some q ∨ w.heap.size ≤ q)
    (ho' : w'.ownsRow B 105 3 x' l'.length (rcells l')) : OwnV (w'.setCell ⟨g, k, none⟩ x') B (.slice (some ⟨g, 0, none⟩) n cap) n (vs.set k x') (ls.set k l') := by
  have hlt := h.lt
  obtain ⟨hl, ho, hi, hd, hd'⟩ := h
  have hgl := (owns_lt ho g rfl).2
  have hvl : vs.length = n := by have := ho.1; omega
  have ho1 := owns_grown ho hg (fun g' hg' e => hd' k x g' hx hg' e)
  have hst := ho1.stored k x'
  have get : ∀ (i : Nat) (y : Value), (vs.set k x')[i]? = some y → (i = k ∧ y = x') ∨ (i ≠ k ∧ vs[i]? = some y) := by
    intro i y hy
    by_cases hik : k = i
    · subst hik
      rw [List.getElem?_set_self (by omega)] at hy
      cases hy
      exact .inl ⟨rfl, rfl⟩
    · rw [List.getElem?_set_ne hik] at hy
      exact .inr ⟨fun e => hik e.symm, hy⟩
  have far : ∀ (i : Nat) (y : Value) (q : Nat), i ≠ k → vs[i]? = some y → y.ownBlock = some q → x'.ownBlock ≠ some q := by
    intro i y q hne hy hyq hxq
    have h1 := hlt i y q hy hyq
    rcases hb q hxq with h2 | h2
    · rcases Nat.lt_or_gt_of_ne hne with h3 | h3
      · exact hd i k y x q h3 hy hx hyq h2
      · exact hd k i x y q h3 hx hy h2 hyq
    · omega
  have farg : x'.ownBlock ≠ some g := by
    intro hxq
    rcases hb g hxq with h2 | h2
    · exact hd' k x g hx rfl h2
    · omega
  refine ⟨by simpa using hl, hst.1, fun i hlt' => ?_, ?_, ?_⟩
  · by_cases hik : k = i
    · subst hik
      refine ⟨x', by simp [hvl, hk], ?_⟩
      have e : (ls.set k l').getD k [] = l' := by simp [List.getD, hl, hk]
      rw [e]
      refine owns_grown ho' hst.2 fun g' hg' he => ?_
      simp at he
      subst he
      exact farg hg'
    · obtain ⟨y, h1, h2⟩ := hi i hlt'
      refine ⟨y, by rw [List.getElem?_set_ne hik]; exact h1, ?_⟩
      have e : (ls.set k l').getD i [] = ls.getD i [] := by simp [List.getD, hik]
      rw [e]
      refine owns_grown (owns_grown h2 hg fun g' hg' e => ?_) hst.2 fun g' hg' he => ?_
      · rcases Nat.lt_or_gt_of_ne hik with hlt' | hgt
        · exact hd k i x y g' hlt' hx h1 e hg'
        · exact hd i k y x g' hgt h1 hx hg' e
      · simp at he
        subst he
        exact hd' i y _ h1 rfl hg'
  · intro i j y z g' hij hy hz hyg hzg
    rcases get i y hy with ⟨h1, rfl⟩ | ⟨h1, h2⟩
    · rcases get j z hz with ⟨h3, rfl⟩ | ⟨h3, h4⟩
      · omega
      · exact far j z g' h3 h4 hzg hyg
    · rcases get j z hz with ⟨h3, rfl⟩ | ⟨h3, h4⟩
      · exact far i y g' h1 h2 hyg hzg
      · exact hd i j y z g' hij h2 h4 hyg hzg
  · intro i y g' hy hv hyg
    simp [Value.ownBlock] at hv
    subst hv
    rcases get i y hy with ⟨h1, rfl⟩ | ⟨h1, h2⟩
    · exact farg hyg
    · exact hd' i y _ h2 rfl hyg

/-- A new leaf is put in between. -/
theorem OwnV.ins {w0 W w2 : World} {B g n cap g' c' i : Nat} {vs : List Value} {ls : List (List Ch.Row)} {x : Value} {l : List Ch.Row} (h : OwnV w0 B (.slice (some ⟨g, 0, none⟩) n cap) n vs ls) (hb : Below w0.heap.size w0 W)
    (hx : W.ownsRow w0.heap.size 105 3 x l.length (rcells l)) (hB : B ≤ w0.heap.size) (hi' : i ≤ n)
    (h2 : w2.ownsRow B 107 1 (.slice (some ⟨g', 0, none⟩) (n + 1) c') (n + 1) (vs.take i ++ [x] ++ vs.drop i)) (hg : W.grownBy w2 (some g)) (hat : g' = g ∨ W.heap.size ≤ g') : OwnLv w2 B (.slice (some ⟨g', 0, none⟩) (n + 1) c') (n + 1) (ls.take i ++ [l] ++ ls.drop i) := by
  have hlt := h.lt
  obtain ⟨hl, ho, hi, hd, hd'⟩ := h
  have hvl : vs.length = n := by have := ho.1; omega
  have hsz := hb.size
  have Lx := owns_lt hx
  have hgl := (owns_lt ho g rfl).2
  have get : ∀ j, (vs.take i ++ [x] ++ vs.drop i)[j]? = if j < i then vs[j]? else if j = i then some x else vs[j - 1]? := by
    intro j
    have htl : (vs.take i).length = i := by simp; omega
    rcases Nat.lt_trichotomy j i with h | h | h
    · rw [if_pos h, List.append_assoc, List.getElem?_append_left (by omega), List.getElem?_take, if_pos h]
    · subst h
      rw [if_neg (by omega), if_pos rfl, List.append_assoc, List.getElem?_append_right (by omega), htl]
      simp
    · rw [if_neg (by omega), if_neg (by omega), List.getElem?_append_right (by simp; omega), List.getElem?_drop]
      simp only [List.length_append, htl, List.length_cons, List.length_nil]
      congr 1; omega
  have getl : ∀ j, (ls.take i ++ [l] ++ ls.drop i).getD j [] = if j < i then ls.getD j [] else if j = i then l else ls.getD (j - 1) [] := by
    intro j
    have htl : (ls.take i).length = i := by simp; omega
    simp only [List.getD]
    rcases Nat.lt_trichotomy j i with h | h | h
    · rw [if_pos h, List.append_assoc, List.getElem?_append_left (by omega), List.getElem?_take, if_pos h]
    · subst h
      rw [if_neg (by omega), if_pos rfl, List.append_assoc, List.getElem?_append_right (by omega), htl]
      simp
    · rw [if_neg (by omega), if_neg (by omega), List.getElem?_append_right (by simp; omega), List.getElem?_drop]
      simp only [List.length_append, htl, List.length_cons, List.length_nil]
      congr 2; omega
  have tell : ∀ (j : Nat) (y : Value), (vs.take i ++ [x] ++ vs.drop i)[j]? = some y → (j = i ∧ y = x) ∨ (j ≠ i ∧ vs[if j < i then j else j - 1]? = some y) := by
    intro j y hy
    rw [get] at hy
    by_cases h1 : j < i
    · rw [if_pos h1] at hy
      exact .inr ⟨by omega, by rw [if_pos h1]; exact hy⟩
    · rw [if_neg h1] at hy
      by_cases h2 : j = i
      · rw [if_pos h2] at hy
        exact .inl ⟨h2, by simpa using hy.symm⟩
      · rw [if_neg h2] at hy
        exact .inr ⟨h2, by rw [if_neg h1]; exact hy⟩
  refine ⟨by simp; omega, _, h2, fun j hj => ?_, ?_, ?_⟩
  · rw [get, getl]
    by_cases h2 : j = i
    · subst h2
      rw [if_neg (by omega), if_pos rfl, if_neg (by omega), if_pos rfl]
      exact ⟨x, rfl, owns_base (owns_grown hx hg fun q hq e => by
        have := Lx q hq
        simp at e
        omega) hB⟩
    · have : ∃ jj, jj < n ∧ (if j < i then vs[j]? else if j = i then some x else vs[j - 1]?) = vs[jj]? ∧ (if j < i then ls.getD j [] else if j = i then l else ls.getD (j - 1) []) = ls.getD jj [] := by
        by_cases h1 : j < i
        · exact ⟨j, by omega, by rw [if_pos h1], by rw [if_pos h1]⟩
        · exact ⟨j - 1, by omega, by rw [if_neg h1, if_neg h2], by rw [if_neg h1, if_neg h2]⟩
      obtain ⟨jj, hjj, e1, e2⟩ := this
      rw [e1, e2]
      obtain ⟨y, h3, h4⟩ := hi jj hjj
      refine ⟨y, h3, owns_grown (owns_below h4 hb) hg fun q hq e => ?_⟩
      simp at e
      subst e
      exact hd' jj y _ h3 rfl hq
  · intro j1 j2 y z q hj hy hz hyq hzq
    rcases tell j1 y hy with ⟨h3, rfl⟩ | ⟨h3, h4⟩
    · rcases tell j2 z hz with ⟨h5, rfl⟩ | ⟨h5, h6⟩
      · omega
      · have := hlt _ z q h6 hzq
        have := Lx q hyq
        omega
    · rcases tell j2 z hz with ⟨h5, rfl⟩ | ⟨h5, h6⟩
      · have := hlt _ y q h4 hyq
        have := Lx q hzq
        omega
      · exact hd _ _ y z q (by split <;> split <;> omega) h4 h6 hyq hzq
  · intro j y q hy hv hyq
    simp [Value.ownBlock] at hv
    subst hv
    rcases tell j y hy with ⟨h3, rfl⟩ | ⟨h3, h4⟩
    · have := Lx g' hyq
      rcases hat with h5 | h5 <;> omega
    · have := hlt _ y g' h4 hyq
      rcases hat with h5 | h5
      · subst h5; exact hd' _ y _ h4 rfl hyq
      · omega

theorem Ch.split_is (ls : List (List Ch.Row)) (k : Nat) (l1 l2 : List Ch.Row) (h : k < ls.length) : (ls.set k l1).take (k + 1) ++ [l2] ++ (ls.set k l1).drop (k + 1) = ls.take k ++ [l1, l2] ++ ls.drop (k + 1) := by
  rw [List.drop_set, if_pos (by omega), List.take_add_one, List.take_set, List.set_eq_of_length_le (by simp; omega)]
  simp [h]

set_option maxHeartbeats 4000000 in
theorem splitLeaf_any (B g n cap k : Nat) (ls : List (List Ch.Row)) (w : World) (h : OwnLv w B (.slice (some ⟨g, 0, none⟩) n cap) n ls) (hk : k < n) (hn : n ≤ 1048576) (hB : B ≤ w.heap.size) (h2 : 2 ≤ (ls.getD k []).length) (h9 : (ls.getD k []).length ≤ 1048576) :
    Calls Try.prog 131 #[.slice (some ⟨g, 0, none⟩) n cap, .int .i64 k] w fun e w' => ∃ g' c', e = .returned (.slice (some ⟨g', 0, none⟩) (n + 1) c') ∧ OwnLv w' B (.slice (some ⟨g', 0, none⟩) (n + 1) c') (n + 1) (ls.take k ++ [(ls.getD k []).take ((ls.getD k []).length / 2), (ls.getD k []).drop ((ls.getD k []).length / 2)] ++ ls.drop (k + 1)) ∧ Below B w w' := by
  have hll := h.1
  obtain ⟨vs, hV⟩ := h.told
  obtain ⟨b, ai, ci, hbe, hbl, cg, hvk, ho, _⟩ := hV.leafAt hk
  simp only [Option.some.injEq, Addr.mk.injEq, and_true] at hbe
  subst hbe
  have hgi0 := hV.2.2.2.2 k _ g hvk rfl
  have Lg := owns_bounds hV.2.1
  have HSp := hid (fun l1 l2 => Ch.split_is ls k l1 l2 (by omega))
  generalize hl : ls.getD k [] = l at *
  generalize hL : l.length = L at *
  rcases ho.2 with ⟨_, h00⟩ | ⟨gi, cp, cur, hv, _⟩
  · omega
  simp only [Value.slice.injEq, true_and] at hv
  obtain ⟨rfl, rfl⟩ := hv
  have Lgi := owns_bounds ho
  have hgi : gi ≠ g := fun e => hgi0 (by rw [← e]; rfl)
  have hcap := owns_capN ho
  have hc := owns_cells ho
  obtain ⟨hf, hhf⟩ : ∃ hf, hf = L / 2 := ⟨_, rfl⟩
  rw [← hhf]
  have hq : (L : Int).tdiv 2 = (hf : Int) := by rw [Int.tdiv_eq_ediv_of_nonneg (by omega)]; omega
  have hh1 : hf ≤ L := by omega
  have hh2 : hf ≤ ci := by omega
  have hh3 : ¬ ci = hf := by omega
  have hh4 : 1 ≤ hf := by omega
  have hh5 : hf < L := by omega
  have hcL := hc.cutL hh1
  have hcR := hc.cutR hh1
  rw [Nat.zero_add] at hcR
  have HLL : Hid ((l.take hf).length = hf) := by show _ = _; simp; omega
  have HLR : Hid ((l.drop hf).length = L - hf) := by show _ = _; simp; omega
  clear hhf hc
  have hwk : IntKind.i64.wrap ((k : Int) + 1) = (k : Int) + 1 := IntWalk.i64_in _ ⟨by omega, by omega⟩
  go_enter Try.func131, Try.ntmps131
  go_wp2_with fail
  refine (cloneRows_any ⟨gi, 0, none⟩ hf ci (l.take hf) w hcL (by omega)).mono ?_
  rintro e w1 ⟨a1, c1, rfl, own1, b1⟩
  have cg1 := keep_cell b1 cg
  have fg1 := (owns_below hV.2.1 b1).frozenAt k
  have hz1 := b1.size
  have hg1 := lt_of_cell cg1
  have own1' : w1.ownsRow w.heap.size 105 3 (.slice a1 hf c1) (l.take hf).length (rcells (l.take hf)) := by rw [HLL.out]; exact own1
  have O2 := h.put b1 own1' hk hB
  have hcR1 := hcR.below b1
  have hcR2 : CellsAt (w1.setCell ⟨g, k, none⟩ (.slice a1 hf c1)) (some ⟨gi, hf * 3, none⟩) ((L - hf) * 3) (rcells (l.drop hf)) :=
    hcR1.grown (row := some g) ⟨rfl, rfl, rfl, by simp [World.setCell], fun q _ hne => Below.heap_setCell _ _ _ _ (by intro e; exact hne (by rw [e]))⟩ (fun b off e e2 => by cases e; simp at e2; exact hgi e2.symm)
  have B2 : Below B w (w1.setCell ⟨g, k, none⟩ (.slice a1 hf c1)) := (b1.mono hB).setCell (p := ⟨g, k, none⟩) Lg.1 _
  have hz2 : (w1.setCell ⟨g, k, none⟩ (.slice a1 hf c1)).heap.size = w1.heap.size := by simp [World.setCell]
  go_wp2_with fail
  refine (cloneRows_any ⟨gi, hf * 3, none⟩ (L - hf) (ci - hf) (l.drop hf) _ hcR2 (by omega)).mono ?_
  rintro e w3 ⟨a3, c3, rfl, own3, b3⟩
  generalize w1.setCell ⟨g, k, none⟩ (.slice a1 hf c1) = w2 at *
  obtain ⟨vs2, hV2⟩ := O2.told
  have hone := inner_one hV2
  have b3' : ∀ o, Below w2.heap.size w2 (w3.alloc o) := fun o => b3.alloc b3.size _
  have own3' : ∀ o, (w3.alloc o).ownsRow w2.heap.size 105 3 (.slice a3 (L - hf) c3) (l.drop hf).length (rcells (l.drop hf)) := fun o => by rw [HLR.out]; exact owns_below own3 ((Below.refl _ _).alloc (Nat.le_refl _) _)
  have hz3 := b3.size
  have hB3 : ∀ o, Below B w (w3.alloc o) := fun o => (B2.trans (b3.mono (by omega))).alloc (by omega) _
  go_wp2_with fail
  refine (insertL_any B g n cap (k + 1) w3.heap.size vs2 [.slice a3 (L - hf) c3] _ (owns_below hV2.2.1 (b3' _)) (heap_newI rfl) rfl (by simp [Value.oneCell']) hone hn (by omega) (by simp; omega) (by omega)).mono ?_
  rintro e w4 ⟨g4, c4, rfl, own4, gr4, at4⟩
  go_wp2
  go_ret
  simp only [Nat.mul_one] at own4
  refine ⟨g4, c4, rfl, ?_, (hB3 _).grown gr4 (by simp; omega) (fun q hq => by simp at hq; omega)⟩
  have := hV2.ins (l := l.drop hf) (b3' _) (own3' _) (by omega) (by omega) own4 gr4 at4
  rw [HSp.out] at this
  exact this
end Go.Proofs.Ythfanfnbjldddaa


/- PutRow of the program. -/
namespace Go.Proofs.Ythfanfnbjldddaa
open Go.RowKit Go.Maps

theorem step_look {ops : Array Oper} {o : Oper} {a : Act} {w : World} {K : Act → World → Prop} {Q : Exit → Act → World → Prop} {E : Prop} (m x : Operand) (B N : Nat) (D : DataW Unit) (key : Int) (i j : Nat) (bb : Bool)
    (hop : o.op = Op.lookup 148 m x true) (hg : o.guard = none) (hm : a.eval m = .map (some B)) (hx : a.eval x = .int .i64 key) (hown : w.ownsMap Try.prog 2 plElem B N D) (h0 : 0 ≤ key) (h1 : key ≤ 99)
    (hb : Maps.has D (kk key) = bb) (hat : D.atKey (kk key) (pl 0 0) = pl i j) (hK : K (a.put o.dst (.tuple #[.agg #[.int .i64 i, .int .i64 j], .bool bb])) w) : if Region.wanted o (yielded ops a.tmps) = true then Oper.wp Try.prog o a w K Q else E := by
  have hw : Region.wanted o (yielded ops a.tmps) = true := by simp [Region.wanted, hg]
  rw [if_pos hw]
  obtain ⟨v, ps, hrun, hv⟩ := hown.look_ok Try.keyed Try.underlying148 (Try.zeroPlace w) (plElem_mk 0 0) (kk_key h0 h1)
  unfold Oper.wp
  simp [execOp, hop, hm, hx, hrun, Result.andThen]
  have hv' : plElem v = some (D.atKey (kk key) (pl 0 0), ps) := hv
  rw [hat] at hv'
  rw [plElem_inv hv', hb]
  exact hK

theorem one_put' (W : World) (B H : Nat) (rk rv : Int) (rg : Bool) (hH : W.heap.size = H) (hB : B ≤ H) : OwnLv ((W.alloc (.cells #[.int .i64 rk, .int .i64 rv, .bool rg] 105)).alloc (.cells #[.slice (some ⟨H, 0, none⟩) 1 1] 107)) B (.slice (some ⟨H + 1, 0, none⟩) 1 1) 1 [[⟨rk, rv, rg⟩]] := by
  subst hH
  exact one_put W B rk rv rg hB

set_option linter.unusedSimpArgs false in
set_option maxRecDepth 100000 in
set_option maxHeartbeats 8000000 in
theorem implPutRow_any (a : Option Addr) (n cap : Nat) (ls : List (List Ch.Row)) (rk rv : Int) (rg : Bool) (w : World) (h : LvAt w a n ls) (hs : Ch.lvSize ls ≤ 1048576) :
    Calls Try.prog 105 #[.slice a n cap, .agg #[.int .i64 rk, .int .i64 rv, .bool rg]] w fun e w' => ∃ a' m c', e = .returned (.agg #[.int .i64 (Ch.putR ls ⟨rk, rv, rg⟩).1, .slice a' m c']) ∧ OwnLv w' w.heap.size (.slice a' m c') m (Ch.putR ls ⟨rk, rv, rg⟩).2 ∧ Below w.heap.size w w' := by
  have HL := h.len
  have b0 : Below w.heap.size w ((w.alloc (.cells #[.int .i64 rk, .int .i64 rv, .bool rg] 105)).alloc (.cells #[.int .i64 0, .slice none 0 0] 97)) := Below.alloc (Below.alloc (Below.refl _ w) (Nat.le_refl _) _) (by simp) _
  obtain ⟨c, Hc⟩ : ∃ c, Hid (c = Ch.leavesFault ls) := ⟨_, rfl⟩
  obtain ⟨d, Hd⟩ : ∃ d, Hid (d = Ch.rowFault rk rv rg) := ⟨_, rfl⟩
  have HA : Hid ((c != 0) = true → Ch.putR ls ⟨rk, rv, rg⟩ = (c, [])) := by rw [Hc.out]; exact fun h => Ch.putR_code h
  have HB : Hid ((c != 0) = false → (d != 0) = true → Ch.putR ls ⟨rk, rv, rg⟩ = (d, [])) := by rw [Hc.out, Hd.out]; exact fun h h' => Ch.putR_row h h'
  have HC : Hid ((c != 0) = false → (d != 0) = false → 60 < (Ch.put ls ⟨rk, rv, rg⟩).length → Ch.putR ls ⟨rk, rv, rg⟩ = (2, [])) := by rw [Hc.out, Hd.out]; exact fun h h' => Ch.putR_many h h'
  have HD : Hid ((c != 0) = false → (d != 0) = false → ¬ 60 < (Ch.put ls ⟨rk, rv, rg⟩).length → Ch.putR ls ⟨rk, rv, rg⟩ = (0, Ch.put ls ⟨rk, rv, rg⟩)) := by rw [Hc.out, Hd.out]; exact fun h h' => Ch.putR_ok h h'
  go_enter Try.func105, Try.ntmps105
  go_wp2_with fail
  refine (implLeaves_any a n cap ls _ (h.below b0) hs).mono ?_
  rintro e w1 ⟨rfl, b1⟩
  rw [← Hc.out]
  obtain ⟨cA, fA⟩ := bcell b1
  have r0 := cA w.heap.size 0 (by simp; omega)
  have r1 := cA w.heap.size 1 (by simp; omega)
  have r2 := cA w.heap.size 2 (by simp; omega)
  have x0 := cA (w.heap.size + 1) 0 (by simp)
  have x1 := cA (w.heap.size + 1) 1 (by simp)
  have f0 := fA (w.heap.size + 1) 0 (by simp)
  have f1 := fA (w.heap.size + 1) 1 (by simp)
  clear cA fA
  simp [go_sem] at r0 r1 r2 x0 x1 f0 f1
  have hz := lt_of_cell x0
  have bE := b0.trans (b1.mono b0.size)
  clear b1 b0
  cases hc : (c != 0)
  · have HG : Hid (Ch.leavesFault ls = 0) := by show _ = _; rw [← Hc.out]; simpa using hc
    clear HA
    go_wp2_with fail
    refine (implRow_any rk rv rg _).mono ?_
    rintro e w2 ⟨rfl, b2⟩
    rw [← Hd.out]
    have r0 := keep_cell b2 r0
    have r1 := keep_cell b2 r1
    have r2 := keep_cell b2 r2
    have x0 := keep_cell b2 x0
    have x1 := keep_cell b2 x1
    have f0 := ((bcell b2).2 (w.heap.size + 1) 0 hz).trans f0
    have f1 := ((bcell b2).2 (w.heap.size + 1) 1 hz).trans f1
    have hz := lt_of_cell x0
    have bE := bE.trans (b2.mono bE.size)
    clear b2
    cases hd : (d != 0)
    · have HC' := hid (HC.out hc hd)
      have HD' := hid (HD.out hc hd)
      have HRF : Hid (Ch.rowFault rk rv rg = 0) := by show _ = _; rw [← Hd.out]; simpa using hd
      clear HB HC HD
      by_cases hn0 : n = 0
      · subst hn0
        have HP : Hid (Ch.putR ls ⟨rk, rv, rg⟩ = (0, [[⟨rk, rv, rg⟩]])) := by
          show _ = _
          rw [HD'.out (by rw [Ch.put_nil HL.out.symm]; simp), Ch.put_nil HL.out.symm]
        clear HC' HD'
        have hz' : w.heap.size < w2.heap.size := by omega
        go_wp2
        refine bodyPost_ret (v := .agg #[.int .i64 0, .slice (some ⟨w2.heap.size + 1, 0, none⟩) 1 1]) (by simp [results, Try.results105, go_sem, x0, x1, hz, hz']) rfl ⟨some ⟨w2.heap.size + 1, 0, none⟩, 1, 1, by rw [HP.out], ?_, ?_⟩
        · rw [HP.out]
          exact one_put' _ w.heap.size w2.heap.size rk rv rg (by simp [World.setCell]) bE.size
        · have bs := (bE.setCell (p := ⟨w.heap.size + 1, 0, none⟩) (by simp) (.int .i64 0)).setCell (p := ⟨w.heap.size + 1, 1, none⟩) (by simp) (.slice (some ⟨w2.heap.size + 1, 0, none⟩) 1 1)
          exact (bs.alloc bs.size _).alloc (by have := bs.size; simp at this ⊢; omega) _
      · have hg := Ch.good_at HL HG.out
        have hn60 : n ≤ 60 := by have := Ch.good_len HG.out; have := HL.out; omega
        have hnb : ((n : Int) == 0) = false := by simp; omega
        go_wp2_with fail
        refine (cloneLeaves_any a n cap ls _ (h.below bE) hs hg (by omega)).mono ?_
        rintro e w3 ⟨g, c3, rfl, own3, b3⟩
        have r0 := keep_cell b3 r0
        have r1 := keep_cell b3 r1
        have r2 := keep_cell b3 r2
        have x0 := keep_cell b3 x0
        have x1 := keep_cell b3 x1
        have f0 := ((bcell b3).2 (w.heap.size + 1) 0 hz).trans f0
        have f1 := ((bcell b3).2 (w.heap.size + 1) 1 hz).trans f1
        have bE3 := bE.trans (b3.mono bE.size)
        have hzB := hz
        have hz := lt_of_cell x0
        have hBs := b3.size
        obtain ⟨B, hBe⟩ : ∃ B, w2.heap.size = B := ⟨_, rfl⟩
        rw [hBe] at own3 hzB hBs
        have hwB : w.heap.size + 1 < B := hzB
        clear b3 hBe bE
        have HKey : Hid (0 ≤ rk ∧ rk ≤ 99) := Ch.rowFault_key HRF.out
        have hk0 := HKey.out.1
        have hk1 := HKey.out.2
        have HS : Hid (∀ W', Below w3.heap.size w3 W' → W'.cell? ⟨w.heap.size, 0, none⟩ = some (.int .i64 rk)) := fun W' hW => keep_cell hW r0
        obtain ⟨ii, jj, bb, HPl, HX⟩ : ∃ (ii jj : Nat) (bb : Bool), Hid (∀ D, Pl ls D ls.length 0 → Maps.has D (kk rk) = bb ∧ D.atKey (kk rk) (pl 0 0) = pl ii jj) ∧ Hid ((bb = true ∧ ii < ls.length ∧ jj < (ls.getD ii []).length ∧ Ch.keyAt ls ii jj = rk) ∨ (bb = false ∧ Ch.findR ls rk = none)) := by
          cases hfr : Ch.findR ls rk with
          | none => exact ⟨0, 0, false, fun D hD => hD.none hfr, .inr ⟨rfl, rfl⟩⟩
          | some row =>
            obtain ⟨i, j, hi, hj, hr, hk⟩ := Ch.find_some hfr
            have e : Ch.keyAt ls i j = rk := by unfold Ch.keyAt; rw [hr]; exact hk
            refine ⟨i, j, true, fun D hD => ?_, .inl ⟨rfl, hi, hj, e⟩⟩
            have := hD.yes i j (.inl hi) hi hj
            rw [e] at this
            exact ⟨this.1, this.2 _⟩
        go_upto_region 10 with fail
        go_cut [8, 9] (fun s8 s9 wx => ∃ P, s8 = .pointer (some ⟨P, 0, none⟩) ∧ s9 = .bool bb ∧ wx.cell? ⟨P, 0, none⟩ = some (.int .i64 ii) ∧ wx.cell? ⟨P, 1, none⟩ = some (.int .i64 jj) ∧ w3.heap.size ≤ P ∧ Below w3.heap.size w3 wx)
        case first =>
          refine wp_region_noPanic ?_
          refine wp_region_held_drew (S := fun W' => W'.cell? ⟨w.heap.size, 0, none⟩ = some (.int .i64 rk)) (by kernel_rfl) (r0) (fun hH => ?_)
          refine hTake (i := 0) (v := ?_) rfl (by kernel_rfl) (by kernel_rfl) (by kernel_rfl) (by rfl) ?_ hH ?_
          rotate_left
          · intro W hW; (try dsimp only at hW); go_simp <;> with_reducible rfl
          simp only [Act.put, List.setIfInBounds_toArray, List.set_cons_zero, List.set_cons_succ]
          refine hTake (i := 2) (v := ?_) rfl (by kernel_rfl) (by kernel_rfl) (by kernel_rfl) (by rfl) ?_ hH ?_
          rotate_left
          · intro W hW; (try dsimp only at hW); go_simp <;> with_reducible rfl
          simp only [Act.put, List.setIfInBounds_toArray, List.set_cons_zero, List.set_cons_succ]
          refine hTake (i := 3) (v := ?_) rfl (by kernel_rfl) (by kernel_rfl) (by kernel_rfl) (by rfl) ?_ hH ?_
          rotate_left
          · intro W hW; (try dsimp only at hW); go_simp <;> with_reducible rfl
          simp only [Act.put, List.setIfInBounds_toArray, List.set_cons_zero, List.set_cons_succ]
          have bd : Below w3.heap.size w3 w3.drew := (Below.refl _ _).drew
          have zd := bd.size
          generalize w3.drew = w3d at *
          refine wpAnyH_ready (rs := [1, 8]) (by kernel_rfl) (by simp) ?_
          refine AllReadyH.cons rfl (fun K hK => ?_) (AllReadyH.cons rfl (fun K hK => ?_) AllReadyH.nil)
          focus
            go_simp
            refine (places_any a n cap ls w3d (h.below (bE3.trans (bd.mono bE3.size))) HG.out).mono ?_
            rintro e w4 ⟨N, D, rfl, own, hP, b4⟩
            have B4 := bd.trans (b4.mono bd.size)
            have ⟨hh, ha⟩ := HPl.out D hP
            go_wp2_with fail
            refine hK.out _ _ ?_ (fun hH => ?_)
            · exact HS.out _ B4
            clear hK K
            refine wpAnyH_ready (rs := [4, 8]) (by kernel_rfl) (by simp) ?_
            refine AllReadyH.cons rfl (fun K hK => ?_) (AllReadyH.cons rfl (fun K hK => ?_) AllReadyH.nil)
            focus
              refine step_look (.tmp 35) (.tmp 37) _ N D rk ii jj bb rfl rfl rfl rfl own hk0 hk1 hh ha ?_
              refine hK.out _ _ ?_ (fun hH => ?_)
              · exact HS.out _ B4
              clear hK K
              simp only [Act.put, List.setIfInBounds_toArray, List.set_cons_zero, List.set_cons_succ]
              refine hTake (i := 5) (v := ?_) rfl (by kernel_rfl) (by kernel_rfl) (by kernel_rfl) (by rfl) ?_ hH ?_
              rotate_left
              · intro W hW; (try dsimp only at hW); go_simp <;> with_reducible rfl
              simp only [Act.put, List.setIfInBounds_toArray, List.set_cons_zero, List.set_cons_succ]
              refine hTake (i := 6) (v := ?_) rfl (by kernel_rfl) (by kernel_rfl) (by kernel_rfl) (by rfl) ?_ hH ?_
              rotate_left
              · intro W hW; (try dsimp only at hW); go_simp <;> with_reducible rfl
              simp only [Act.put, List.setIfInBounds_toArray, List.set_cons_zero, List.set_cons_succ]
              refine hTake (i := 7) (v := ?_) rfl (by kernel_rfl) (by kernel_rfl) (by kernel_rfl) (by rfl) ?_ hH ?_
              rotate_left
              · intro W hW; (try dsimp only at hW); go_simp <;> with_reducible rfl
              simp only [Act.put, List.setIfInBounds_toArray, List.set_cons_zero, List.set_cons_succ]
              refine wpAnyH_ready (rs := [8]) (by kernel_rfl) (by simp) ?_
              refine AllReadyH.cons rfl (fun K hK => ?_) AllReadyH.nil
              go_simp
              refine hK.out _ _ ?_ (fun hH => ?_)
              · exact HS.out _ (B4.alloc B4.size _)
              clear hK K
              have BA := B4.alloc B4.size (.cells #[.int .i64 0, .int .i64 0] 146)
              have p0 : (w4.alloc (.cells #[.int .i64 0, .int .i64 0] 146)).cell? ⟨w4.heap.size, 0, none⟩ = some (.int .i64 0) := by simp [go_sem]
              have p1 : (w4.alloc (.cells #[.int .i64 0, .int .i64 0] 146)).cell? ⟨w4.heap.size, 1, none⟩ = some (.int .i64 0) := by simp [go_sem]
              have q0 : (w4.alloc (.cells #[.int .i64 0, .int .i64 0] 146)).frozen? ⟨w4.heap.size, 0, none⟩ = false := by simp [go_sem]
              have q1 : (w4.alloc (.cells #[.int .i64 0, .int .i64 0] 146)).frozen? ⟨w4.heap.size, 1, none⟩ = false := by simp [go_sem]
              have zP := B4.size
              generalize (w4.alloc (.cells #[.int .i64 0, .int .i64 0] 146)) = wA at *
              refine wpAnyH_ready (rs := [9]) (by kernel_rfl) (by simp) ?_
              refine AllReadyH.cons rfl (fun K hK => ?_) AllReadyH.nil
              go_simp
              refine hK.out _ _ ?_ (fun hH => ?_)
              · exact HS.out _ ((BA.setCell (p := ⟨w4.heap.size, 0, none⟩) zP _).setCell (p := ⟨w4.heap.size, 1, none⟩) zP _)
              clear hK K
              refine hTake (i := 10) (v := ?_) rfl (by kernel_rfl) (by kernel_rfl) (by kernel_rfl) (by rfl) ?_ hH ?_
              rotate_left
              · intro W hW; (try dsimp only at hW); go_simp <;> with_reducible rfl
              simp only [Act.put, List.setIfInBounds_toArray, List.set_cons_zero, List.set_cons_succ]
              refine wpAnyH_done (by kernel_rfl) ?_ _
              refine NoPanic.normal ?_
              go_wp2_with fail
              go_meet
              exact ⟨w4.heap.size, rfl, rfl, by simp [go_sem, p0, p1], by simp [go_sem, p0, p1], zP, (BA.setCell (p := ⟨w4.heap.size, 0, none⟩) zP _).setCell (p := ⟨w4.heap.size, 1, none⟩) zP _⟩
            focus
              go_simp
              refine hK.out _ _ ?_ (fun hH => ?_)
              · exact HS.out _ (B4.alloc B4.size _)
              clear hK K
              have BA := B4.alloc B4.size (.cells #[.int .i64 0, .int .i64 0] 146)
              have own' := own.alloc (.cells #[.int .i64 0, .int .i64 0] 146)
              have p0 : (w4.alloc (.cells #[.int .i64 0, .int .i64 0] 146)).cell? ⟨w4.heap.size, 0, none⟩ = some (.int .i64 0) := by simp [go_sem]
              have p1 : (w4.alloc (.cells #[.int .i64 0, .int .i64 0] 146)).cell? ⟨w4.heap.size, 1, none⟩ = some (.int .i64 0) := by simp [go_sem]
              have q0 : (w4.alloc (.cells #[.int .i64 0, .int .i64 0] 146)).frozen? ⟨w4.heap.size, 0, none⟩ = false := by simp [go_sem]
              have q1 : (w4.alloc (.cells #[.int .i64 0, .int .i64 0] 146)).frozen? ⟨w4.heap.size, 1, none⟩ = false := by simp [go_sem]
              have zP := B4.size
              generalize (w4.alloc (.cells #[.int .i64 0, .int .i64 0] 146)) = wA at *
              refine wpAnyH_ready (rs := [4]) (by kernel_rfl) (by simp) ?_
              refine AllReadyH.cons rfl (fun K hK => ?_) AllReadyH.nil
              refine step_look (.tmp 35) (.tmp 37) _ N D rk ii jj bb rfl rfl rfl rfl own' hk0 hk1 hh ha ?_
              refine hK.out _ _ ?_ (fun hH => ?_)
              · exact HS.out _ BA
              clear hK K
              simp only [Act.put, List.setIfInBounds_toArray, List.set_cons_zero, List.set_cons_succ]
              refine hTake (i := 5) (v := ?_) rfl (by kernel_rfl) (by kernel_rfl) (by kernel_rfl) (by rfl) ?_ hH ?_
              rotate_left
              · intro W hW; (try dsimp only at hW); go_simp <;> with_reducible rfl
              simp only [Act.put, List.setIfInBounds_toArray, List.set_cons_zero, List.set_cons_succ]
              refine hTake (i := 6) (v := ?_) rfl (by kernel_rfl) (by kernel_rfl) (by kernel_rfl) (by rfl) ?_ hH ?_
              rotate_left
              · intro W hW; (try dsimp only at hW); go_simp <;> with_reducible rfl
              simp only [Act.put, List.setIfInBounds_toArray, List.set_cons_zero, List.set_cons_succ]
              refine hTake (i := 7) (v := ?_) rfl (by kernel_rfl) (by kernel_rfl) (by kernel_rfl) (by rfl) ?_ hH ?_
              rotate_left
              · intro W hW; (try dsimp only at hW); go_simp <;> with_reducible rfl
              simp only [Act.put, List.setIfInBounds_toArray, List.set_cons_zero, List.set_cons_succ]
              refine wpAnyH_ready (rs := [9]) (by kernel_rfl) (by simp) ?_
              refine AllReadyH.cons rfl (fun K hK => ?_) AllReadyH.nil
              go_simp
              refine hK.out _ _ ?_ (fun hH => ?_)
              · exact HS.out _ ((BA.setCell (p := ⟨w4.heap.size, 0, none⟩) zP _).setCell (p := ⟨w4.heap.size, 1, none⟩) zP _)
              clear hK K
              refine hTake (i := 10) (v := ?_) rfl (by kernel_rfl) (by kernel_rfl) (by kernel_rfl) (by rfl) ?_ hH ?_
              rotate_left
              · intro W hW; (try dsimp only at hW); go_simp <;> with_reducible rfl
              simp only [Act.put, List.setIfInBounds_toArray, List.set_cons_zero, List.set_cons_succ]
              refine wpAnyH_done (by kernel_rfl) ?_ _
              refine NoPanic.normal ?_
              go_wp2_with fail
              go_meet
              exact ⟨w4.heap.size, rfl, rfl, by simp [go_sem, p0, p1], by simp [go_sem, p0, p1], zP, (BA.setCell (p := ⟨w4.heap.size, 0, none⟩) zP _).setCell (p := ⟨w4.heap.size, 1, none⟩) zP _⟩
          focus
            go_simp
            refine hK.out _ _ ?_ (fun hH => ?_)
            · exact HS.out _ (bd.alloc bd.size _)
            clear hK K
            have BA := bd.alloc bd.size (.cells #[.int .i64 0, .int .i64 0] 146)
            have p0 : (w3d.alloc (.cells #[.int .i64 0, .int .i64 0] 146)).cell? ⟨w3d.heap.size, 0, none⟩ = some (.int .i64 0) := by simp [go_sem]
            have p1 : (w3d.alloc (.cells #[.int .i64 0, .int .i64 0] 146)).cell? ⟨w3d.heap.size, 1, none⟩ = some (.int .i64 0) := by simp [go_sem]
            have q0 : (w3d.alloc (.cells #[.int .i64 0, .int .i64 0] 146)).frozen? ⟨w3d.heap.size, 0, none⟩ = false := by simp [go_sem]
            have q1 : (w3d.alloc (.cells #[.int .i64 0, .int .i64 0] 146)).frozen? ⟨w3d.heap.size, 1, none⟩ = false := by simp [go_sem]
            generalize (w3d.alloc (.cells #[.int .i64 0, .int .i64 0] 146)) = wA at *
            refine wpAnyH_ready (rs := [1]) (by kernel_rfl) (by simp) ?_
            refine AllReadyH.cons rfl (fun K hK => ?_) AllReadyH.nil
            go_simp
            refine (places_any a n cap ls wA (h.below (bE3.trans (BA.mono bE3.size))) HG.out).mono ?_
            rintro e w4 ⟨N, D, rfl, own, hP, b4⟩
            have B4 := BA.trans (b4.mono BA.size)
            have ⟨hh, ha⟩ := HPl.out D hP
            go_wp2_with fail
            refine hK.out _ _ ?_ (fun hH => ?_)
            · exact HS.out _ B4
            clear hK K
            have lP := lt_of_cell p0
            have q0 := ((bcell b4).2 _ _ lP).trans q0
            have q1 := ((bcell b4).2 _ _ lP).trans q1
            have p0 := keep_cell b4 p0
            have p1 := keep_cell b4 p1
            refine wpAnyH_ready (rs := [4]) (by kernel_rfl) (by simp) ?_
            refine AllReadyH.cons rfl (fun K hK => ?_) AllReadyH.nil
            refine step_look (.tmp 35) (.tmp 37) _ N D rk ii jj bb rfl rfl rfl rfl own hk0 hk1 hh ha ?_
            refine hK.out _ _ ?_ (fun hH => ?_)
            · exact HS.out _ B4
            clear hK K
            simp only [Act.put, List.setIfInBounds_toArray, List.set_cons_zero, List.set_cons_succ]
            refine hTake (i := 5) (v := ?_) rfl (by kernel_rfl) (by kernel_rfl) (by kernel_rfl) (by rfl) ?_ hH ?_
            rotate_left
            · intro W hW; (try dsimp only at hW); go_simp <;> with_reducible rfl
            simp only [Act.put, List.setIfInBounds_toArray, List.set_cons_zero, List.set_cons_succ]
            refine hTake (i := 6) (v := ?_) rfl (by kernel_rfl) (by kernel_rfl) (by kernel_rfl) (by rfl) ?_ hH ?_
            rotate_left
            · intro W hW; (try dsimp only at hW); go_simp <;> with_reducible rfl
            simp only [Act.put, List.setIfInBounds_toArray, List.set_cons_zero, List.set_cons_succ]
            refine hTake (i := 7) (v := ?_) rfl (by kernel_rfl) (by kernel_rfl) (by kernel_rfl) (by rfl) ?_ hH ?_
            rotate_left
            · intro W hW; (try dsimp only at hW); go_simp <;> with_reducible rfl
            simp only [Act.put, List.setIfInBounds_toArray, List.set_cons_zero, List.set_cons_succ]
            refine wpAnyH_ready (rs := [9]) (by kernel_rfl) (by simp) ?_
            refine AllReadyH.cons rfl (fun K hK => ?_) AllReadyH.nil
            go_simp
            refine hK.out _ _ ?_ (fun hH => ?_)
            · exact HS.out _ ((B4.setCell (p := ⟨w3d.heap.size, 0, none⟩) zd _).setCell (p := ⟨w3d.heap.size, 1, none⟩) zd _)
            clear hK K
            refine hTake (i := 10) (v := ?_) rfl (by kernel_rfl) (by kernel_rfl) (by kernel_rfl) (by rfl) ?_ hH ?_
            rotate_left
            · intro W hW; (try dsimp only at hW); go_simp <;> with_reducible rfl
            simp only [Act.put, List.setIfInBounds_toArray, List.set_cons_zero, List.set_cons_succ]
            refine wpAnyH_done (by kernel_rfl) ?_ _
            refine NoPanic.normal ?_
            go_wp2_with fail
            go_meet
            exact ⟨w3d.heap.size, rfl, rfl, by simp [go_sem, p0, p1], by simp [go_sem, p0, p1], zd, (B4.setCell (p := ⟨w3d.heap.size, 0, none⟩) zd _).setCell (p := ⟨w3d.heap.size, 1, none⟩) zd _⟩
        case rest =>
          obtain ⟨w4, hwn⟩ : ∃ x : World, x = wc := ⟨_, rfl⟩
          subst hwn
          obtain ⟨P, rfl, rfl, p0, p1, hP, b4⟩ := hcut
          have r0 := keep_cell b4 r0
          have r1 := keep_cell b4 r1
          have r2 := keep_cell b4 r2
          have x0 := keep_cell b4 x0
          have x1 := keep_cell b4 x1
          have f0 := ((bcell b4).2 (w.heap.size + 1) 0 hz).trans f0
          have f1 := ((bcell b4).2 (w.heap.size + 1) 1 hz).trans f1
          obtain ⟨vs, hV3⟩ := own3.told
          have HLt : Hid (∀ (i : Nat) (x : Value) (q : Nat), vs[i]? = some x → x.ownBlock = some q → q < w3.heap.size) := fun i x q h1 h2 => (hV3.lt i x q h1 h2).2
          have hV : OwnV w4 B (.slice (some ⟨g, 0, none⟩) n c3) n vs ls := ⟨hV3.1, owns_below hV3.2.1 b4, fun i hi => by
            obtain ⟨x, h1, h2⟩ := hV3.2.2.1 i hi
            exact ⟨x, h1, owns_below h2 b4⟩, hV3.2.2.2.1, hV3.2.2.2.2⟩
          have bE4 := bE3.trans (b4.mono bE3.size)
          have hz := lt_of_cell x0
          have hP1 := lt_of_cell p0
          have hB4 : B ≤ w4.heap.size := by have := b4.size; omega
          have hBP : B ≤ P := by omega
          clear b4 own3 bE3 HS HPl hV3
          rcases HX.out with ⟨hbb, hi, hj, hkk⟩ | ⟨hbb, hno⟩
          · subst hbb
            have hin : ii < n := by have := HL.out; omega
            have HPut : Hid (Ch.putR ls ⟨rk, rv, rg⟩ = (0, ls.set ii ((ls.getD ii []).set jj ⟨rk, rv, rg⟩))) := by
              have e := Ch.put_old (r := ⟨rk, rv, rg⟩) HG.out hi hj hkk
              show _ = _
              rw [HD'.out (by rw [e]; simp; have := HL.out; omega), e]
            obtain ⟨b, ai, ci, hbe, hbl, cg, hvk, ho, hwi⟩ := hV.leafAt hin
            simp only [Option.some.injEq, Addr.mk.injEq, and_true] at hbe
            subst hbe
            have hgi0 := hV.2.2.2.2 ii _ g hvk rfl
            have Lg := owns_bounds hV.2.1
            clear HC' HD' HX hkk
            have HW := hid hwi
            clear hwi
            generalize hl : ls.getD ii [] = l at *
            generalize hL : l.length = L at *
            rcases ho.2 with ⟨_, h00⟩ | ⟨gi, cp, cur, hv, _⟩
            · omega
            simp only [Value.slice.injEq, true_and] at hv
            obtain ⟨rfl, rfl⟩ := hv
            have Lgi := owns_bounds ho
            have hgig : gi ≠ g := fun e => hgi0 (by rw [← e]; rfl)
            have hgiP : gi ≠ P := fun e => by
              have := HLt.out ii _ gi hvk rfl
              omega
            have ho1 : w4.drew.ownsRow B 105 3 (.slice (some ⟨gi, 0, none⟩) L ci) L (rcells l) := ho
            have s1 := ho1.stored (jj * 3) (.int .i64 rk)
            have s2 := s1.1.stored (jj * 3 + 1) (.int .i64 rv)
            have s3 := s2.1.stored (jj * 3 + 2) (.bool rg)
            have gr := gr_trans (gr_trans s1.2 s2.2) s3.2
            have e3 := rcells_set l jj ⟨rk, rv, rg⟩ (by omega)
            simp only at e3
            have own5 := s3.1
            rw [e3] at own5
            obtain ⟨bq, oq, heq, q0, q1, q2⟩ := (owns_cells ho1).row (k := jj) (by omega)
            simp only [Option.some.injEq, Addr.mk.injEq, and_true] at heq
            obtain ⟨rfl, rfl⟩ := heq
            simp only [Nat.zero_add] at q0 q1 q2
            have z0 := ho1.frozenAt (jj * 3)
            have z1 := ho1.frozenAt (jj * 3 + 1)
            have z2 := ho1.frozenAt (jj * 3 + 2)
            have hjn : (jj : Nat) < L := by omega
            clear s1 s2 s3 e3
            go_upto_region 12 with fail
            refine wp_region_noPanic ?_
            refine wp_region_held_drew (S := fun W' => W'.cell? ⟨P, 0, none⟩ = some (.int .i64 ii) ∧ W'.cell? ⟨P, 1, none⟩ = some (.int .i64 jj) ∧ W'.cell? ⟨g, ii, none⟩ = some (.slice (some ⟨gi, 0, none⟩) L ci) ∧ W'.cell? ⟨w.heap.size, 0, none⟩ = some (.int .i64 rk) ∧ W'.cell? ⟨w.heap.size, 1, none⟩ = some (.int .i64 rv) ∧ W'.cell? ⟨w.heap.size, 2, none⟩ = some (.bool rg)) (by kernel_rfl) (⟨p0, p1, cg, r0, r1, r2⟩) (fun hH => ?_)
            refine hTake (i := 0) (v := ?_) rfl (by kernel_rfl) (by kernel_rfl) (by kernel_rfl) (by rfl) ?_ hH ?_
            rotate_left
            · intro W hW; (try dsimp only at hW); go_simp <;> with_reducible rfl
            simp only [Act.put, List.setIfInBounds_toArray, List.set_cons_zero, List.set_cons_succ]
            refine hTake (i := 1) (v := ?_) rfl (by kernel_rfl) (by kernel_rfl) (by kernel_rfl) (by rfl) ?_ hH ?_
            rotate_left
            · intro W hW; (try dsimp only at hW); go_simp <;> with_reducible rfl
            simp only [Act.put, List.setIfInBounds_toArray, List.set_cons_zero, List.set_cons_succ]
            refine hTake (i := 2) (v := ?_) rfl (by kernel_rfl) (by kernel_rfl) (by kernel_rfl) (by rfl) ?_ hH ?_
            rotate_left
            · intro W hW; (try dsimp only at hW); go_simp <;> with_reducible rfl
            simp only [Act.put, List.setIfInBounds_toArray, List.set_cons_zero, List.set_cons_succ]
            refine hTake (i := 3) (v := ?_) rfl (by kernel_rfl) (by kernel_rfl) (by kernel_rfl) (by rfl) ?_ hH ?_
            rotate_left
            · intro W hW; (try dsimp only at hW); go_simp <;> with_reducible rfl
            simp only [Act.put, List.setIfInBounds_toArray, List.set_cons_zero, List.set_cons_succ]
            refine hTake (i := 4) (v := ?_) rfl (by kernel_rfl) (by kernel_rfl) (by kernel_rfl) (by rfl) ?_ hH ?_
            rotate_left
            · intro W hW; (try dsimp only at hW); go_simp <;> with_reducible rfl
            simp only [Act.put, List.setIfInBounds_toArray, List.set_cons_zero, List.set_cons_succ]
            refine hTake (i := 5) (v := ?_) rfl (by kernel_rfl) (by kernel_rfl) (by kernel_rfl) (by rfl) ?_ hH ?_
            rotate_left
            · intro W hW; (try dsimp only at hW); go_simp <;> with_reducible rfl
            simp only [Act.put, List.setIfInBounds_toArray, List.set_cons_zero, List.set_cons_succ]
            refine hTake (i := 6) (v := ?_) rfl (by kernel_rfl) (by kernel_rfl) (by kernel_rfl) (by rfl) ?_ hH ?_
            rotate_left
            · intro W hW; (try dsimp only at hW); go_simp <;> with_reducible rfl
            simp only [Act.put, List.setIfInBounds_toArray, List.set_cons_zero, List.set_cons_succ]
            refine hTake (i := 7) (v := ?_) rfl (by kernel_rfl) (by kernel_rfl) (by kernel_rfl) (by rfl) ?_ hH ?_
            rotate_left
            · intro W hW; (try dsimp only at hW); go_simp <;> with_reducible rfl
            simp only [Act.put, List.setIfInBounds_toArray, List.set_cons_zero, List.set_cons_succ]
            refine hTake (i := 8) (v := ?_) rfl (by kernel_rfl) (by kernel_rfl) (by kernel_rfl) (by rfl) ?_ hH ?_
            rotate_left
            · intro W hW; (try dsimp only at hW); go_simp <;> with_reducible rfl
            simp only [Act.put, List.setIfInBounds_toArray, List.set_cons_zero, List.set_cons_succ]
            refine hTake (i := 9) (v := ?_) rfl (by kernel_rfl) (by kernel_rfl) (by kernel_rfl) (by rfl) ?_ hH ?_
            rotate_left
            · intro W hW; (try dsimp only at hW); go_simp <;> with_reducible rfl
            simp only [Act.put, List.setIfInBounds_toArray, List.set_cons_zero, List.set_cons_succ]
            have b4d : Below w4.heap.size w4 w4.drew := (Below.refl _ _).drew
            have hV4 : OwnV w4.drew B (.slice (some ⟨g, 0, none⟩) n c3) n vs ls := hV
            have x0 : w4.drew.cell? ⟨w.heap.size + 1, 0, none⟩ = some (.int .i64 0) := x0
            have x1 : w4.drew.cell? ⟨w.heap.size + 1, 1, none⟩ = some (.slice none 0 0) := x1
            have f0 : w4.drew.frozen? ⟨w.heap.size + 1, 0, none⟩ = false := f0
            have f1 : w4.drew.frozen? ⟨w.heap.size + 1, 1, none⟩ = false := f1
            generalize w4.drew = wd at *
            refine wpAnyH_ready (rs := [10]) (by kernel_rfl) (by simp) ?_
            refine AllReadyH.cons rfl (fun K hK => ?_) AllReadyH.nil
            go_simp
            refine hK.out _ _ ?_ (fun hH => ?_)
            · exact ⟨grown_cell gr hH.1 (by simp; omega), grown_cell gr hH.2.1 (by simp; omega), grown_cell gr hH.2.2.1 (by simp; omega), grown_cell gr hH.2.2.2.1 (by simp; omega), grown_cell gr hH.2.2.2.2.1 (by simp; omega), grown_cell gr hH.2.2.2.2.2 (by simp; omega)⟩
            clear hK K
            refine wpAnyH_done (by kernel_rfl) ?_ _
            refine NoPanic.normal ?_
            clear hH
            have gr5 := gr_chain b4d gr
            have V5 := HW.out _ (l.set jj ⟨rk, rv, rg⟩) gr5 (by simpa using hL) (by rw [List.length_set, hL]; exact own5)
            have hzd : w.heap.size + 1 < wd.heap.size := lt_of_cell x0
            have f0 := (World.grownBy.frozen_far gr ⟨w.heap.size + 1, 0, none⟩ hzd (by simp; omega)).trans f0
            have f1 := (World.grownBy.frozen_far gr ⟨w.heap.size + 1, 1, none⟩ hzd (by simp; omega)).trans f1
            have x0 := grown_cell gr x0 (by simp; omega)
            have x1 := grown_cell gr x1 (by simp; omega)
            have bE5 := bE4.grown gr5 bE4.size (fun k hk => by simp at hk; omega)
            generalize (((wd.setCell ⟨gi, jj * 3, none⟩ (.int .i64 rk)).setCell ⟨gi, jj * 3 + 1, none⟩ (.int .i64 rv)).setCell ⟨gi, jj * 3 + 2, none⟩ (.bool rg)) = w5 at *
            clear own5 gr gr5 hV4 b4d
            go_wp2
            refine bodyPost_ret (v := .agg #[.int .i64 0, .slice (some ⟨g, 0, none⟩) n c3]) (by simp [results, Try.results105, go_sem, x0, x1]) rfl ⟨some ⟨g, 0, none⟩, n, c3, by rw [HPut.out], ?_, ?_⟩
            · rw [HPut.out]
              have O5 : OwnLv w5 B (.slice (some ⟨g, 0, none⟩) n c3) n (ls.set ii (l.set jj ⟨rk, rv, rg⟩)) := ⟨V5.1, vs, V5.2.1, V5.2.2.1, V5.2.2.2.1, V5.2.2.2.2⟩
              exact ((O5.box hwB _).box hwB _).base (by omega)
            · exact (bE5.setCell (p := ⟨w.heap.size + 1, 0, none⟩) (by simp) _).setCell (p := ⟨w.heap.size + 1, 1, none⟩) (by simp) _
          · subst hbb
            obtain ⟨p, hp⟩ : ∃ p, p = Ch.forAt ls rk n := ⟨_, rfl⟩
            have hpn : p < n := by rw [hp]; exact Ch.forAt_lt (by omega)
            have hpl : p < ls.length := by have := HL.out; omega
            have HLF : Hid (Ch.leafFor ls rk = (0, (p : Int))) := by
              show _ = _
              have e := HL.out
              have hb : Ch.inB rk 0 99 = true := by unfold Ch.inB; simp; omega
              have ha : Ch.asked ls rk = 0 := by unfold Ch.asked; simp [HG.out, hb]
              unfold Ch.leafFor
              rw [ha, if_neg (by simp), if_neg (by omega), hp, e]
            have HPA : Hid (Ch.put ls ⟨rk, rv, rg⟩ = ls.take p ++ Ch.halves ((ls.getD p []).take (Ch.insAt rk (ls.getD p [])) ++ [⟨rk, rv, rg⟩] ++ (ls.getD p []).drop (Ch.insAt rk (ls.getD p []))) ++ ls.drop (p + 1)) := by
              show _ = _
              refine Ch.put_new (r := ⟨rk, rv, rg⟩) (by omega) (by rw [hp]; have e := HL.out; subst e; rfl) (fun x hx => ?_)
              obtain ⟨j, hj, rfl⟩ := List.getElem_of_mem hx
              have := Ch.find_none hno p j hpl hj
              unfold Ch.keyAt Ch.rowAt at this
              rwa [Ch.getD_get _ _ j hj] at this
            have hl4 := (Ch.allFit_of_page (Ch.good_leaf HG.out p hpl).2).2
            have hl0 := (Ch.good_leaf HG.out p hpl).1
            clear hp hno HX p0 p1
            go_wp2_with fail
            refine (implLeafFor_any a n cap rk ls _ (h.below bE4) hs).mono ?_
            rintro e w5 ⟨he, b5⟩
            have he' : e = .returned (.agg #[.int .i64 0, .int .i64 p]) := by rw [he, HLF.out]
            subst he'
            clear he
            have hfd : ∀ W, (Instr.field 35 (.agg #[.int .i64 0, .int .i64 (p : Int)]) 1).run Try.prog W = .ok (.int .i64 (p : Int)) W := fun _ => by kernel_rfl
            have r0 := keep_cell b5 r0
            have r1 := keep_cell b5 r1
            have r2 := keep_cell b5 r2
            have x0 := keep_cell b5 x0
            have x1 := keep_cell b5 x1
            have f0 := ((bcell b5).2 (w.heap.size + 1) 0 hz).trans f0
            have f1 := ((bcell b5).2 (w.heap.size + 1) 1 hz).trans f1
            have hV : OwnV w5 B (.slice (some ⟨g, 0, none⟩) n c3) n vs ls := ⟨hV.1, owns_below hV.2.1 b5, fun i hi => by
              obtain ⟨x, h1, h2⟩ := hV.2.2.1 i hi
              exact ⟨x, h1, owns_below h2 b5⟩, hV.2.2.2.1, hV.2.2.2.2⟩
            have bE5 := bE4.trans (b5.mono bE4.size)
            have hz := lt_of_cell x0
            have hB5 : B ≤ w5.heap.size := by have := b5.size; omega
            clear b5 bE4
            obtain ⟨b, ai, ci, hbe, hbl, cg, hvk, ho, _⟩ := hV.leafAt hpn
            simp only [Option.some.injEq, Addr.mk.injEq, and_true] at hbe
            subst hbe
            have hgi0 := hV.2.2.2.2 p _ g hvk rfl
            have Lg := owns_bounds hV.2.1
            generalize hl : ls.getD p [] = l at *
            generalize hL : l.length = L at *
            rcases ho.2 with ⟨_, h00⟩ | ⟨gi, cp, cur, hv, _⟩
            · omega
            simp only [Value.slice.injEq, true_and] at hv
            obtain ⟨rfl, rfl⟩ := hv
            have Lgi := owns_bounds ho
            have hgig : gi ≠ g := fun e => hgi0 (by rw [← e]; rfl)
            have hngi : some gi ≠ some g := by simpa using hgig
            have hngh : some gi ≠ some w.heap.size := by simp; omega
            have hngx : some gi ≠ some (w.heap.size + 1) := by simp; omega
            generalize hl' : l.take (Ch.insAt rk l) ++ [⟨rk, rv, rg⟩] ++ l.drop (Ch.insAt rk l) = l' at *
            have HM : Hid (l'.length = L + 1) := by
              show _ = _
              rw [← hl']
              have := Ch.insAt_le rk l
              simp
              omega
            have hIns : ∀ W, W.ownsRow B 105 3 (.slice (some ⟨gi, 0, none⟩) L ci) L (rcells l) → B ≤ W.heap.size → Calls Try.prog 130 #[.slice (some ⟨gi, 0, none⟩) L ci, .agg #[.int .i64 rk, .int .i64 rv, .bool rg]] W fun e w' => ∃ g' c', e = .returned (.slice (some ⟨g', 0, none⟩) (L + 1) c') ∧ w'.ownsRow B 105 3 (.slice (some ⟨g', 0, none⟩) (L + 1) c') (L + 1) (rcells l') ∧ W.grownBy w' (some gi) ∧ (g' = gi ∨ W.heap.size ≤ g') := fun W hW hBW => by
              rw [← hl']
              exact insertRow_any B gi L ci l rk rv rg W hW (by omega) hBW
            generalize hMe : L + 1 = M at *
            have HMe := hid hMe
            clear hMe
            have HI := hid hIns
            clear hl' hIns
            go_upto_region 15 with fail
            go_cut [10] (fun s wx => s = .int .i64 p ∧ ∃ g6 c6 vs', OwnV wx B (.slice (some ⟨g, 0, none⟩) n c3) n vs' (ls.set p l') ∧ wx.cell? ⟨g, p, none⟩ = some (.slice (some ⟨g6, 0, none⟩) M c6) ∧ wx.cell? ⟨w.heap.size + 1, 0, none⟩ = some (.int .i64 0) ∧ wx.cell? ⟨w.heap.size + 1, 1, none⟩ = some (.slice none 0 0) ∧ wx.frozen? ⟨w.heap.size + 1, 0, none⟩ = false ∧ wx.frozen? ⟨w.heap.size + 1, 1, none⟩ = false ∧ Below w.heap.size w wx ∧ B ≤ wx.heap.size)
            case first =>
              refine wp_region_noPanic ?_
              refine wp_region_held_drew (S := fun _ => True) (by kernel_rfl) trivial (fun hH => ?_)
              refine hTake (i := 0) (v := ?_) rfl (by kernel_rfl) (by kernel_rfl) (by kernel_rfl) (by rfl) ?_ hH ?_
              rotate_left
              · intro W hW; (try dsimp only at hW); go_simp <;> with_reducible rfl
              simp only [Act.put, List.setIfInBounds_toArray, List.set_cons_zero, List.set_cons_succ]
              refine hTake (i := 1) (v := ?_) rfl (by kernel_rfl) (by kernel_rfl) (by kernel_rfl) (by rfl) ?_ hH ?_
              rotate_left
              · intro W hW; (try dsimp only at hW); go_simp <;> with_reducible rfl
              simp only [Act.put, List.setIfInBounds_toArray, List.set_cons_zero, List.set_cons_succ]
              refine hTake (i := 2) (v := ?_) rfl (by kernel_rfl) (by kernel_rfl) (by kernel_rfl) (by rfl) ?_ hH ?_
              rotate_left
              · intro W hW; (try dsimp only at hW); go_simp <;> with_reducible rfl
              simp only [Act.put, List.setIfInBounds_toArray, List.set_cons_zero, List.set_cons_succ]
              refine hTake (i := 3) (v := ?_) rfl (by kernel_rfl) (by kernel_rfl) (by kernel_rfl) (by rfl) ?_ hH ?_
              rotate_left
              · intro W hW; (try dsimp only at hW); go_simp <;> with_reducible rfl
              simp only [Act.put, List.setIfInBounds_toArray, List.set_cons_zero, List.set_cons_succ]
              refine hTake (i := 4) (v := ?_) rfl (by kernel_rfl) (by kernel_rfl) (by kernel_rfl) (by rfl) ?_ hH ?_
              rotate_left
              · intro W hW; (try dsimp only at hW); go_simp <;> with_reducible rfl
              simp only [Act.put, List.setIfInBounds_toArray, List.set_cons_zero, List.set_cons_succ]
              refine hTake (i := 5) (v := ?_) rfl (by kernel_rfl) (by kernel_rfl) (by kernel_rfl) (by rfl) ?_ hH ?_
              rotate_left
              · intro W hW; (try dsimp only at hW); go_simp <;> with_reducible rfl
              simp only [Act.put, List.setIfInBounds_toArray, List.set_cons_zero, List.set_cons_succ]
              have r0 : w5.drew.cell? ⟨w.heap.size, 0, none⟩ = some (.int .i64 rk) := r0
              have r1 : w5.drew.cell? ⟨w.heap.size, 1, none⟩ = some (.int .i64 rv) := r1
              have r2 : w5.drew.cell? ⟨w.heap.size, 2, none⟩ = some (.bool rg) := r2
              have x0 : w5.drew.cell? ⟨w.heap.size + 1, 0, none⟩ = some (.int .i64 0) := x0
              have x1 : w5.drew.cell? ⟨w.heap.size + 1, 1, none⟩ = some (.slice none 0 0) := x1
              have f0 : w5.drew.frozen? ⟨w.heap.size + 1, 0, none⟩ = false := f0
              have f1 : w5.drew.frozen? ⟨w.heap.size + 1, 1, none⟩ = false := f1
              have cg : w5.drew.cell? ⟨g, p, none⟩ = some (.slice (some ⟨gi, 0, none⟩) L ci) := cg
              have hV : OwnV w5.drew B (.slice (some ⟨g, 0, none⟩) n c3) n vs ls := hV
              have ho : w5.drew.ownsRow B 105 3 (.slice (some ⟨gi, 0, none⟩) L ci) L (rcells l) := ho
              have bE5 : Below w.heap.size w w5.drew := bE5.drew
              have hB5 : B ≤ w5.drew.heap.size := hB5
              have hz : w.heap.size + 1 < w5.drew.heap.size := hz
              generalize w5.drew = wd at *
              refine wpAnyH_ready (rs := [6, 7]) (by kernel_rfl) (by simp) ?_
              refine AllReadyH.cons rfl (fun K hK => ?_) (AllReadyH.cons rfl (fun K hK => ?_) AllReadyH.nil)
              focus
                go_simp
                refine hK.out _ _ trivial (fun hH => ?_)
                clear hK K
                refine wpAnyH_ready (rs := [7]) (by kernel_rfl) (by simp) ?_
                refine AllReadyH.cons rfl (fun K hK => ?_) AllReadyH.nil
                go_simp
                refine hK.out _ _ trivial (fun hH => ?_)
                clear hK K
                refine wpAnyH_ready (rs := [8]) (by kernel_rfl) (by simp) ?_
                refine AllReadyH.cons rfl (fun K hK => ?_) AllReadyH.nil
                go_simp
                refine (HI.out wd ho hB5).mono ?_
                rintro e w6 ⟨g6, c6, rfl, own6, gr6, at6⟩
                go_wp2_with fail
                refine hK.out _ _ trivial (fun hH => ?_)
                clear hK K
                refine hTake (i := 9) (v := ?_) rfl (by kernel_rfl) (by kernel_rfl) (by kernel_rfl) (by rfl) ?_ hH ?_
                rotate_left
                · intro W hW; (try dsimp only at hW); go_simp <;> with_reducible rfl
                simp only [Act.put, List.setIfInBounds_toArray, List.set_cons_zero, List.set_cons_succ]
                refine hTake (i := 10) (v := ?_) rfl (by kernel_rfl) (by kernel_rfl) (by kernel_rfl) (by rfl) ?_ hH ?_
                rotate_left
                · intro W hW; (try dsimp only at hW); go_simp <;> with_reducible rfl
                simp only [Act.put, List.setIfInBounds_toArray, List.set_cons_zero, List.set_cons_succ]
                have own6' : w6.ownsRow B 105 3 (.slice (some ⟨g6, 0, none⟩) M c6) l'.length (rcells l') := by rw [HM.out]; exact own6
                have hat : ∀ q, (Value.slice (some ⟨g6, 0, none⟩) M c6).ownBlock = some q → (Value.slice (some ⟨gi, 0, none⟩) L ci).ownBlock = some q ∨ wd.heap.size ≤ q := fun q hq => by
                  simp [Value.ownBlock] at hq
                  subst hq
                  rcases at6 with e | e
                  · exact .inl (by rw [e]; rfl)
                  · exact .inr e
                have V7 := hV.redo (x' := .slice (some ⟨g6, 0, none⟩) M c6) hpn hvk gr6 hat own6'
                have og := owns_grown hV.2.1 gr6 (fun q hq e => by simp [Value.ownBlock] at hq; subst hq; exact hngi e)
                have fg6 := og.frozenAt p
                have gs := (og.stored p (.slice (some ⟨g6, 0, none⟩) M c6)).2
                have cg6 := grown_cell gr6 cg hngi
                have f0 := (World.grownBy.frozen_far gr6 ⟨w.heap.size + 1, 0, none⟩ hz (by simp; omega)).trans f0
                have f1 := (World.grownBy.frozen_far gr6 ⟨w.heap.size + 1, 1, none⟩ hz (by simp; omega)).trans f1
                have x0 := grown_cell gr6 x0 hngx
                have x1 := grown_cell gr6 x1 hngx
                have hz := lt_of_cell x0
                have bE6 := bE5.grown gr6 bE5.size (fun k hk => by simp at hk; omega)
                have bE7 := bE6.grown gs bE6.size (fun k hk => by simp at hk; omega)
                have hB7 : B ≤ (w6.setCell ⟨g, p, none⟩ (.slice (some ⟨g6, 0, none⟩) M c6)).heap.size := by have := gr6.size; have := gs.size; omega
                refine wpAnyH_ready (rs := [11]) (by kernel_rfl) (by simp) ?_
                refine AllReadyH.cons rfl (fun K hK => ?_) AllReadyH.nil
                go_simp
                refine hK.out _ _ trivial (fun hH => ?_)
                clear hK K
                refine wpAnyH_done (by kernel_rfl) ?_ _
                refine NoPanic.normal ?_
                go_wp2_with fail
                go_meet
                exact ⟨rfl, g6, c6, _, V7, by simp [go_sem, cg6], grown_cell gs x0 (by simp; omega), grown_cell gs x1 (by simp; omega), (World.grownBy.frozen_far gs ⟨w.heap.size + 1, 0, none⟩ hz (by simp; omega)).trans f0, (World.grownBy.frozen_far gs ⟨w.heap.size + 1, 1, none⟩ hz (by simp; omega)).trans f1, bE7, hB7⟩
              focus
                go_simp
                refine hK.out _ _ trivial (fun hH => ?_)
                clear hK K
                refine wpAnyH_ready (rs := [6]) (by kernel_rfl) (by simp) ?_
                refine AllReadyH.cons rfl (fun K hK => ?_) AllReadyH.nil
                go_simp
                refine hK.out _ _ trivial (fun hH => ?_)
                clear hK K
                refine wpAnyH_ready (rs := [8]) (by kernel_rfl) (by simp) ?_
                refine AllReadyH.cons rfl (fun K hK => ?_) AllReadyH.nil
                go_simp
                refine (HI.out wd ho hB5).mono ?_
                rintro e w6 ⟨g6, c6, rfl, own6, gr6, at6⟩
                go_wp2_with fail
                refine hK.out _ _ trivial (fun hH => ?_)
                clear hK K
                refine hTake (i := 9) (v := ?_) rfl (by kernel_rfl) (by kernel_rfl) (by kernel_rfl) (by rfl) ?_ hH ?_
                rotate_left
                · intro W hW; (try dsimp only at hW); go_simp <;> with_reducible rfl
                simp only [Act.put, List.setIfInBounds_toArray, List.set_cons_zero, List.set_cons_succ]
                refine hTake (i := 10) (v := ?_) rfl (by kernel_rfl) (by kernel_rfl) (by kernel_rfl) (by rfl) ?_ hH ?_
                rotate_left
                · intro W hW; (try dsimp only at hW); go_simp <;> with_reducible rfl
                simp only [Act.put, List.setIfInBounds_toArray, List.set_cons_zero, List.set_cons_succ]
                have own6' : w6.ownsRow B 105 3 (.slice (some ⟨g6, 0, none⟩) M c6) l'.length (rcells l') := by rw [HM.out]; exact own6
                have hat : ∀ q, (Value.slice (some ⟨g6, 0, none⟩) M c6).ownBlock = some q → (Value.slice (some ⟨gi, 0, none⟩) L ci).ownBlock = some q ∨ wd.heap.size ≤ q := fun q hq => by
                  simp [Value.ownBlock] at hq
                  subst hq
                  rcases at6 with e | e
                  · exact .inl (by rw [e]; rfl)
                  · exact .inr e
                have V7 := hV.redo (x' := .slice (some ⟨g6, 0, none⟩) M c6) hpn hvk gr6 hat own6'
                have og := owns_grown hV.2.1 gr6 (fun q hq e => by simp [Value.ownBlock] at hq; subst hq; exact hngi e)
                have fg6 := og.frozenAt p
                have gs := (og.stored p (.slice (some ⟨g6, 0, none⟩) M c6)).2
                have cg6 := grown_cell gr6 cg hngi
                have f0 := (World.grownBy.frozen_far gr6 ⟨w.heap.size + 1, 0, none⟩ hz (by simp; omega)).trans f0
                have f1 := (World.grownBy.frozen_far gr6 ⟨w.heap.size + 1, 1, none⟩ hz (by simp; omega)).trans f1
                have x0 := grown_cell gr6 x0 hngx
                have x1 := grown_cell gr6 x1 hngx
                have hz := lt_of_cell x0
                have bE6 := bE5.grown gr6 bE5.size (fun k hk => by simp at hk; omega)
                have bE7 := bE6.grown gs bE6.size (fun k hk => by simp at hk; omega)
                have hB7 : B ≤ (w6.setCell ⟨g, p, none⟩ (.slice (some ⟨g6, 0, none⟩) M c6)).heap.size := by have := gr6.size; have := gs.size; omega
                refine wpAnyH_ready (rs := [11]) (by kernel_rfl) (by simp) ?_
                refine AllReadyH.cons rfl (fun K hK => ?_) AllReadyH.nil
                go_simp
                refine hK.out _ _ trivial (fun hH => ?_)
                clear hK K
                refine wpAnyH_done (by kernel_rfl) ?_ _
                refine NoPanic.normal ?_
                go_wp2_with fail
                go_meet
                exact ⟨rfl, g6, c6, _, V7, by simp [go_sem, cg6], grown_cell gs x0 (by simp; omega), grown_cell gs x1 (by simp; omega), (World.grownBy.frozen_far gs ⟨w.heap.size + 1, 0, none⟩ hz (by simp; omega)).trans f0, (World.grownBy.frozen_far gs ⟨w.heap.size + 1, 1, none⟩ hz (by simp; omega)).trans f1, bE7, hB7⟩
            case rest =>
              obtain ⟨w7, hwn⟩ : ∃ x : World, x = wc := ⟨_, rfl⟩
              subst hwn
              obtain ⟨rfl, g6, c6, vs', V7, cg7, x0, x1, f0, f1, bE7, hB7⟩ := hcut
              have hz := lt_of_cell x0
              have O7 : OwnLv w7 B (.slice (some ⟨g, 0, none⟩) n c3) n (ls.set p l') := ⟨V7.1, vs', V7.2.1, V7.2.2.1, V7.2.2.2.1, V7.2.2.2.2⟩
              have hM5 : M ≤ 5 := by have := HMe.out; omega
              have Lg7 := lt_of_cell cg7
              clear V7 HI
              by_cases h4 : M ≤ 4
              · have h4i : (M : Int) ≤ 4 := by omega
                have HPut : Hid (Ch.putR ls ⟨rk, rv, rg⟩ = (0, ls.set p l')) := by
                  have e : Ch.put ls ⟨rk, rv, rg⟩ = ls.set p l' := by
                    rw [HPA.out, Ch.halves, if_pos (by rw [HM.out]; exact h4), List.set_eq_take_append_cons_drop, if_pos hpl]
                    simp
                  show _ = _
                  rw [HD'.out (by rw [e]; simp; have := HL.out; omega), e]
                clear HC' HD' HPA
                go_wp2
                refine bodyPost_ret (v := .agg #[.int .i64 0, .slice (some ⟨g, 0, none⟩) n c3]) (by simp [results, Try.results105, go_sem, x0, x1]) rfl ⟨some ⟨g, 0, none⟩, n, c3, by rw [HPut.out], ?_, ?_⟩
                · rw [HPut.out]
                  exact ((O7.box hwB _).box hwB _).base (by omega)
                · exact (bE7.setCell (p := ⟨w.heap.size + 1, 0, none⟩) (by simp) _).setCell (p := ⟨w.heap.size + 1, 1, none⟩) (by simp) _
              · have h4i : ¬ (M : Int) ≤ 4 := by omega
                have HE : Hid (Ch.put ls ⟨rk, rv, rg⟩ = ls.take p ++ [l'.take (M / 2), l'.drop (M / 2)] ++ ls.drop (p + 1)) := by
                  show _ = _
                  rw [HPA.out, Ch.halves, if_neg (by rw [HM.out]; exact h4), HM.out]
                have HLen : Hid ((Ch.put ls ⟨rk, rv, rg⟩).length = n + 1) := by
                  show _ = _
                  rw [HE.out]
                  have := HL.out
                  simp
                  omega
                by_cases h60 : n = 60
                · have hni : ((n : Int) == 60) = true := by simp; omega
                  have HPut := hid (HC'.out (by rw [HLen.out]; omega))
                  clear HC' HD' HPA HE HLen h60
                  go_wp2
                  refine bodyPost_ret (v := .agg #[.int .i64 2, .slice none 0 0]) (by simp [results, Try.results105, go_sem, x0, x1]) rfl ⟨none, 0, 0, by rw [HPut.out], by rw [HPut.out]; exact OwnLv.nil _ _, ?_⟩
                  exact (bE7.setCell (p := ⟨w.heap.size + 1, 0, none⟩) (by simp) _).setCell (p := ⟨w.heap.size + 1, 1, none⟩) (by simp) _
                · have hni : ((n : Int) == 60) = false := by simp; omega
                  have HPut := hid (HD'.out (by rw [HLen.out]; omega))
                  have hgd : (ls.set p l').getD p [] = l' := by simp [List.getD, hpl]
                  have htk : (ls.set p l').take p = ls.take p := by rw [List.take_set, List.set_eq_of_length_le (by simp; omega)]
                  have hdk : (ls.set p l').drop (p + 1) = ls.drop (p + 1) := by rw [List.drop_set, if_pos (by omega)]
                  have HML := HM.out
                  have hSp := splitLeaf_any B g n c3 p (ls.set p l') w7 O7 hpn (by omega) hB7 (by rw [hgd, HML]; omega) (by rw [hgd, HML]; omega)
                  rw [hgd, htk, hdk, HML, ← HE.out] at hSp
                  clear HC' HD' HPA HE HML hgd htk hdk
                  go_wp2_with fail
                  refine hSp.mono ?_
                  rintro e w8 ⟨g8, c8, rfl, own8, b8⟩
                  have x0 := (b8.cell (p := ⟨w.heap.size + 1, 0, none⟩) hwB).trans x0
                  have x1 := (b8.cell (p := ⟨w.heap.size + 1, 1, none⟩) hwB).trans x1
                  have f0 := (b8.frozen (p := ⟨w.heap.size + 1, 0, none⟩) hwB).trans f0
                  have f1 := (b8.frozen (p := ⟨w.heap.size + 1, 1, none⟩) hwB).trans f1
                  have bE8 := bE7.trans (b8.mono (by omega))
                  go_wp2
                  refine bodyPost_ret (v := .agg #[.int .i64 0, .slice (some ⟨g8, 0, none⟩) (n + 1) c8]) (by simp [results, Try.results105, go_sem, x0, x1]) rfl ⟨some ⟨g8, 0, none⟩, n + 1, c8, by rw [HPut.out], ?_, ?_⟩
                  · rw [HPut.out]
                    exact ((own8.box hwB _).box hwB _).base (by omega)
                  · exact (bE8.setCell (p := ⟨w.heap.size + 1, 0, none⟩) (by simp) _).setCell (p := ⟨w.heap.size + 1, 1, none⟩) (by simp) _
    · have HR := hid (HB.out hc hd)
      clear HB HC HD
      go_wp2
      refine bodyPost_ret (v := .agg #[.int .i64 d, .slice none 0 0]) (by simp [results, Try.results105, go_sem, x0, x1]) rfl ⟨none, 0, 0, by rw [HR.out], by rw [HR.out]; exact OwnLv.nil _ _, ?_⟩
      exact (bE.setCell (p := ⟨w.heap.size + 1, 0, none⟩) (by simp) _).setCell (p := ⟨w.heap.size + 1, 1, none⟩) (by simp) _
  · have HR := hid (HA.out hc)
    clear HA HB HC HD
    go_wp2
    refine bodyPost_ret (v := .agg #[.int .i64 c, .slice none 0 0]) (by simp [results, Try.results105, go_sem, x0, x1]) rfl ⟨none, 0, 0, by rw [HR.out], by rw [HR.out]; exact OwnLv.nil _ _, ?_⟩
    exact (bE.setCell (p := ⟨w.heap.size + 1, 0, none⟩) (by simp) _).setCell (p := ⟨w.heap.size + 1, 1, none⟩) (by simp) _
end Go.Proofs.Ythfanfnbjldddaa


/- The law FnExactDropRow. -/
namespace Go.Proofs.Ythfanfnbjldddaa
open Go.RowKit

theorem Ch.sum_sub {a b : List (List Ch.Row)} (h : List.Sublist a b) : (a.map List.length).sum ≤ (b.map List.length).sum := by
  induction h with
  | slnil => simp
  | cons x _ ih => simp only [List.map_cons, List.sum_cons]; omega
  | cons_cons x _ ih => simp only [List.map_cons, List.sum_cons]; omega
theorem Ch.map_filter_sum (p : Ch.Row → Bool) (ls : List (List Ch.Row)) : ((ls.map (List.filter p)).map List.length).sum ≤ (ls.map List.length).sum := by
  induction ls with
  | nil => simp
  | cons l ls ih =>
    simp only [List.map_cons, List.sum_cons]
    have := List.length_filter_le p l
    omega
theorem Ch.dropR_small {ls : List (List Ch.Row)} (hs : Ch.lvSize ls ≤ 1048576) (key : Int) : Ch.lvSize (Ch.dropR ls key).2 ≤ 1048576 := by
  have h0 : Ch.lvSize ([] : List (List Ch.Row)) ≤ 1048576 := by decide
  unfold Ch.dropR
  by_cases h1 : (Ch.asked ls key != 0) = true
  · rw [if_pos h1]; exact h0
  · rw [if_neg h1]
    cases Ch.findR ls key with
    | none => exact h0
    | some r =>
      show Ch.lvSize (Ch.drop ls key) ≤ 1048576
      have hsub := List.filter_sublist (p := Ch.full) (l := ls.map (List.filter (Ch.notK key)))
      have e1 := Ch.sum_sub hsub
      have e2 := Ch.map_filter_sum (Ch.notK key) ls
      have e3 := hsub.length_le
      unfold Ch.lvSize Ch.drop at *
      simp only [List.length_map] at e3
      omega
theorem small_marks {ls : List (List Ch.Row)} (h : ∀ i, (ls.getD i []).length ≤ 9223372036854775807) : ∀ i, ((lvMarks ls).getD i []).length ≤ 9223372036854775807 := by
  intro i
  by_cases hi : i < ls.length
  · rw [lvMarks_at ls i hi, lvMark_len]; exact h i
  · simp [List.getD, List.getElem?_eq_none (show (lvMarks ls).length ≤ i by rw [lvMarks_len]; omega)]

end Go.Proofs.Ythfanfnbjldddaa


/- The law FnExactPutRow. -/
namespace Go.Proofs.Ythfanfnbjldddaa
open Go.RowKit

theorem Ch.putR_small {ls : List (List Ch.Row)} (r : Ch.Row) : Ch.lvSize (Ch.putR ls r).2 ≤ 1048576 := by
  unfold Ch.putR
  split
  · simp [Ch.lvSize]
  · split
    · simp [Ch.lvSize]
    · split
      · simp [Ch.lvSize]
      · rename_i h _ _
        exact Ch.put_size (by simpa using h)
theorem OwnV.base {w : World} {B B' n : Nat} {v : Value} {vs : List Value} {ls : List (List Ch.Row)} (h : OwnV w B v n vs ls) (hb : B' ≤ B) : OwnV w B' v n vs ls := by
  obtain ⟨hl, ho, hi, hd, hd'⟩ := h
  refine ⟨hl, owns_base ho hb, fun i hlt => ?_, hd, hd'⟩
  obtain ⟨x, h1, h2⟩ := hi i hlt
  exact ⟨x, h1, owns_base h2 hb⟩
theorem OwnV.store {w : World} {B n : Nat} {v : Value} {vs : List Value} {ls : List (List Ch.Row)} (h : OwnV w B v n vs ls) {p o : Nat} {u : Value} (hv : ∀ g, v.ownBlock = some g → g ≠ p) (hx : ∀ (i : Nat) (x : Value) (g : Nat), vs[i]? = some x → x.ownBlock = some g → g ≠ p) : OwnV (w.setCell ⟨p, o, none⟩ u) B v n vs ls := by
  obtain ⟨hl, ho, hi, hd, hd'⟩ := h
  refine ⟨hl, owns_set ho hv u, fun i hlt => ?_, hd, hd'⟩
  obtain ⟨x, h1, h2⟩ := hi i hlt
  exact ⟨x, h1, owns_set h2 (fun g hg => hx i x g h1 hg) u⟩
/-- A result of leaves in its box: P; its lists lie from lo to hi. -/
def PutAt (wx W0 : World) (P : Nat) (c : Int) (a2 : Option Addr) (m2 c2 : Nat) (vs2 : List Value) (rs : List (List Ch.Row)) (lo hi : Nat) : Prop :=
  W0.heap.size ≤ P ∧ P < wx.heap.size ∧ W0.heap.size ≤ lo ∧ hi ≤ wx.heap.size ∧ (P < lo ∨ hi ≤ P) ∧ wx.cell? ⟨P, 0, none⟩ = some (.int .i64 c) ∧ wx.cell? ⟨P, 1, none⟩ = some (.slice a2 m2 c2) ∧ OwnV wx W0.heap.size (.slice a2 m2 c2) m2 vs2 rs ∧
    (∀ g, (Value.slice a2 m2 c2).ownBlock = some g → lo ≤ g ∧ g < hi) ∧ (∀ (i : Nat) (x : Value) (g : Nat), vs2[i]? = some x → x.ownBlock = some g → lo ≤ g ∧ g < hi) ∧ Below W0.heap.size W0 wx

end Go.Proofs.Ythfanfnbjldddaa


/- Records in memory: seven cells each; compared, marked from any number on. -/
namespace Go.Proofs.Ythfanfnbjldddaa
open Go.RowKit

/-- Records as values: seven cells each. -/
def c7 (r : Ch.Rec) : List Value := [.int .i64 r.kd, .int .i64 r.tx, .int .i64 r.ky, .bool r.hd, .int .i64 r.ol, .bool r.hs, .int .i64 r.nw]

def rc7 (rs : List Ch.Rec) : List Value := rs.flatMap c7

theorem rc7_len (rs : List Ch.Rec) : (rc7 rs).length = rs.length * 7 := by
  induction rs with
  | nil => rfl
  | cons r rs ih => simp only [rc7, c7, List.flatMap_cons, List.length_append, List.length_cons, List.length_nil] at *; omega

theorem rc7_snoc (rs : List Ch.Rec) (r : Ch.Rec) : rc7 (rs ++ [r]) = rc7 rs ++ c7 r := by simp [rc7]

theorem rc7_at (rs : List Ch.Rec) (k j : Nat) (h : k < rs.length) (hj : j < 7) : (rc7 rs)[k * 7 + j]? = (c7 (rs.getD k Ch.Rec.zero))[j]? := by
  induction rs generalizing k with
  | nil => simp at h
  | cons r rs ih =>
    cases k with
    | zero =>
      simp only [rc7, List.flatMap_cons, Nat.zero_mul, Nat.zero_add]
      rw [List.getElem?_append_left (by simp [c7]; omega)]
      rfl
    | succ k =>
      have := ih k (by simpa using h)
      simp only [rc7, List.flatMap_cons] at *
      rw [List.getElem?_append_right (by simp [c7]; omega)]
      rw [show (k + 1) * 7 + j - (c7 r).length = k * 7 + j by simp [c7]; omega]
      simpa using this

theorem CellsAt.len7 {w : World} {a : Option Addr} {n : Nat} {rs : List Ch.Rec} (h : CellsAt w a (n * 7) (rc7 rs)) : Hid (n = rs.length) := by
  have := h.1
  rw [rc7_len] at this
  show _ = _
  omega

/-- A record's seven cells. -/
def At7 (w : World) (b o : Nat) (r : Ch.Rec) : Prop := w.cell? ⟨b, o, none⟩ = some (.int .i64 r.kd) ∧ w.cell? ⟨b, o + 1, none⟩ = some (.int .i64 r.tx) ∧ w.cell? ⟨b, o + 2, none⟩ = some (.int .i64 r.ky) ∧ w.cell? ⟨b, o + 3, none⟩ = some (.bool r.hd) ∧ w.cell? ⟨b, o + 4, none⟩ = some (.int .i64 r.ol) ∧ w.cell? ⟨b, o + 5, none⟩ = some (.bool r.hs) ∧ w.cell? ⟨b, o + 6, none⟩ = some (.int .i64 r.nw)

theorem CellsAt.rec {w : World} {a : Option Addr} {n : Nat} {rs : List Ch.Rec} (h : CellsAt w a (n * 7) (rc7 rs)) {k : Nat} (hk : k < n) :
    ∃ b off, a = some ⟨b, off, none⟩ ∧ At7 w b (off + k * 7) (rs.getD k Ch.Rec.zero) := by
  obtain ⟨b, off, ha, hc⟩ := h.2 (by omega)
  have hl := h.len7.out
  have key : ∀ j, j < 7 → w.cell? ⟨b, off + k * 7 + j, none⟩ = (c7 (rs.getD k Ch.Rec.zero))[j]? := fun j hj => by
    rw [Nat.add_assoc, hc _ (by omega), rc7_at rs k j (by omega) hj]
  exact ⟨b, off, ha, key 0 (by omega), key 1 (by omega), key 2 (by omega), key 3 (by omega), key 4 (by omega), key 5 (by omega), key 6 (by omega)⟩

theorem rc7_set (rs : List Ch.Rec) (k : Nat) (r : Ch.Rec) (h : k < rs.length) :
    ((((((((rc7 rs).set (k * 7) (.int .i64 r.kd)).set (k * 7 + 1) (.int .i64 r.tx)).set (k * 7 + 2) (.int .i64 r.ky)).set (k * 7 + 3) (.bool r.hd)).set (k * 7 + 4) (.int .i64 r.ol)).set (k * 7 + 5) (.bool r.hs)).set (k * 7 + 6) (.int .i64 r.nw)) = rc7 (rs.set k r) := by
  induction rs generalizing k with
  | nil => simp at h
  | cons q rs ih =>
    cases k with
    | zero => simp [rc7, c7]
    | succ k =>
      have := ih k (by simpa using h)
      simp only [rc7, c7, List.flatMap_cons, List.set_cons_succ] at *
      rw [← this, show (k + 1) * 7 = k * 7 + 1 + 1 + 1 + 1 + 1 + 1 + 1 by omega]
      simp

theorem owns_stored7 {w : World} {base : Nat} {e : TypeId} {size g n cap : Nat} {xs : List Value} (h : w.ownsRow base e size (.slice (some ⟨g, 0, none⟩) n cap) n xs) (j : Nat) (v0 v1 v2 v3 v4 v5 v6 : Value) :
    (((((((w.setCell ⟨g, j, none⟩ v0).setCell ⟨g, j + 1, none⟩ v1).setCell ⟨g, j + 2, none⟩ v2).setCell ⟨g, j + 3, none⟩ v3).setCell ⟨g, j + 4, none⟩ v4).setCell ⟨g, j + 5, none⟩ v5).setCell ⟨g, j + 6, none⟩ v6).ownsRow base e size (.slice (some ⟨g, 0, none⟩) n cap) n (((((((xs.set j v0).set (j + 1) v1).set (j + 2) v2).set (j + 3) v3).set (j + 4) v4).set (j + 5) v5).set (j + 6) v6) ∧
    w.grownBy (((((((w.setCell ⟨g, j, none⟩ v0).setCell ⟨g, j + 1, none⟩ v1).setCell ⟨g, j + 2, none⟩ v2).setCell ⟨g, j + 3, none⟩ v3).setCell ⟨g, j + 4, none⟩ v4).setCell ⟨g, j + 5, none⟩ v5).setCell ⟨g, j + 6, none⟩ v6) (some g) := by
  have s0 := h.stored j v0
  have s1 := s0.1.stored (j + 1) v1
  have s2 := s1.1.stored (j + 2) v2
  have s3 := s2.1.stored (j + 3) v3
  have s4 := s3.1.stored (j + 4) v4
  have s5 := s4.1.stored (j + 5) v5
  have s6 := s5.1.stored (j + 6) v6
  exact ⟨s6.1, gr_trans (gr_trans (gr_trans (gr_trans (gr_trans (gr_trans s0.2 s1.2) s2.2) s3.2) s4.2) s5.2) s6.2⟩

/-- The marks that a law writes into records. -/
def mark7 (s : Int) (k : Nat) : Ch.Rec := ⟨s + 7 * (k : Int), s + 7 * (k : Int) + 1, s + 7 * (k : Int) + 1 + 1, (s + 7 * (k : Int) + 1 + 1 + 1) % 3 == 0, s + 7 * (k : Int) + 1 + 1 + 1 + 1, (s + 7 * (k : Int) + 1 + 1 + 1 + 1 + 1) % 3 == 0, s + 7 * (k : Int) + 1 + 1 + 1 + 1 + 1 + 1⟩

def marks7 (s : Int) (n : Nat) : List Ch.Rec := (List.range n).map (mark7 s)

theorem marks7_len (s : Int) (n : Nat) : (marks7 s n).length = n := by simp [marks7]

theorem marks7_snoc (s : Int) (n : Nat) : marks7 s (n + 1) = marks7 s n ++ [mark7 s n] := by simp [marks7, List.range_succ]

theorem marks7_at (s : Int) (n k : Nat) (h : k < n) : (marks7 s n).getD k Ch.Rec.zero = mark7 s k := by simp [marks7, List.getD, h]

def marked7 (s : Int) (rs : List Ch.Rec) (k : Nat) : List Ch.Rec := marks7 s k ++ rs.drop k

theorem marked7_set (s : Int) (rs : List Ch.Rec) (k : Nat) (h : k < rs.length) :
    (((((((rc7 (marked7 s rs k)).set (k * 7) (.int .i64 (s + 7 * (k : Int)))).set (k * 7 + 1) (.int .i64 (s + 7 * (k : Int) + 1))).set (k * 7 + 2) (.int .i64 (s + 7 * (k : Int) + 1 + 1))).set (k * 7 + 3) (.bool ((s + 7 * (k : Int) + 1 + 1 + 1) % 3 == 0))).set (k * 7 + 4) (.int .i64 (s + 7 * (k : Int) + 1 + 1 + 1 + 1))).set (k * 7 + 5) (.bool ((s + 7 * (k : Int) + 1 + 1 + 1 + 1 + 1) % 3 == 0))).set (k * 7 + 6) (.int .i64 (s + 7 * (k : Int) + 1 + 1 + 1 + 1 + 1 + 1)) = rc7 (marked7 s rs (k + 1)) := by
  have := rc7_set (marked7 s rs k) k (mark7 s k) (by simp [marked7, marks7_len]; omega)
  rw [show rc7 (marked7 s rs (k + 1)) = rc7 ((marked7 s rs k).set k (mark7 s k)) by unfold marked7; rw [Ch.set_mid _ _ _ _ (marks7_len s k) h, marks7_snoc], ← this]
  rfl

end Go.Proofs.Ythfanfnbjldddaa

