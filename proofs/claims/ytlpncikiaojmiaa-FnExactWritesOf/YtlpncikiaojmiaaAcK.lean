/- Marks that a law writes into acts. -/
import Derived.Test.YtlpncikiaojmiaaAcW
namespace Go.Proofs.Ytlpncikiaojmiaa
open Go.RowKit

theorem set5 {cs : List Value} {n k : Nat} (hk : k < n) (hl : cs.length = n * 6) (a0 a1 a2 a3 a4 : Value) (i j : Nat) (hj : j < 6) :
    (((((cs.set (k * 6) a0).set (k * 6 + 1) a1).set (k * 6 + 2) a2).set (k * 6 + 3) a3).set (k * 6 + 4) a4)[i * 6 + j]? =
      if k = i ∧ j < 5 then some (match j with | 0 => a0 | 1 => a1 | 2 => a2 | 3 => a3 | _ => a4) else cs[i * 6 + j]? := by
  by_cases hik : k = i
  · subst hik
    match j, hj with
    | 0, _ => simp [List.getElem?_set]; omega
    | 1, _ => simp [List.getElem?_set]; omega
    | 2, _ => simp [List.getElem?_set]; omega
    | 3, _ => simp [List.getElem?_set]; omega
    | 4, _ => simp [List.getElem?_set]; omega
    | 5, _ =>
      rw [if_neg (by omega)]
      rw [List.getElem?_set_ne (by omega), List.getElem?_set_ne (by omega), List.getElem?_set_ne (by omega), List.getElem?_set_ne (by omega), List.getElem?_set_ne (by omega)]
  · rw [if_neg (by omega)]
    rw [List.getElem?_set_ne (by omega), List.getElem?_set_ne (by omega), List.getElem?_set_ne (by omega), List.getElem?_set_ne (by omega), List.getElem?_set_ne (by omega)]

theorem owns_stored5 {w : World} {base : Nat} {e : TypeId} {size g n cap : Nat} {xs : List Value} (h : w.ownsRow base e size (.slice (some ⟨g, 0, none⟩) n cap) n xs) (j : Nat) (v0 v1 v2 v3 v4 : Value) :
    (((((w.setCell ⟨g, j, none⟩ v0).setCell ⟨g, j + 1, none⟩ v1).setCell ⟨g, j + 2, none⟩ v2).setCell ⟨g, j + 3, none⟩ v3).setCell ⟨g, j + 4, none⟩ v4).ownsRow base e size (.slice (some ⟨g, 0, none⟩) n cap) n (((((xs.set j v0).set (j + 1) v1).set (j + 2) v2).set (j + 3) v3).set (j + 4) v4) ∧
    w.grownBy (((((w.setCell ⟨g, j, none⟩ v0).setCell ⟨g, j + 1, none⟩ v1).setCell ⟨g, j + 2, none⟩ v2).setCell ⟨g, j + 3, none⟩ v3).setCell ⟨g, j + 4, none⟩ v4) (some g) := by
  have s0 := h.stored j v0
  have s1 := s0.1.stored (j + 1) v1
  have s2 := s1.1.stored (j + 2) v2
  have s3 := s2.1.stored (j + 3) v3
  have s4 := s3.1.stored (j + 4) v4
  exact ⟨s4.1, gr_trans (gr_trans (gr_trans (gr_trans s0.2 s1.2) s2.2) s3.2) s4.2⟩

/-- The numbers of an act are written. -/
theorem OwnAc.five {w : World} {B o n cap k : Nat} {ts : List Ch.Ac} {vs : List Value} (h : OwnAc w B (.slice (some ⟨o, 0, none⟩) n cap) n vs ts) (hk : k < n) (a0 a1 a2 a3 a4 : Int) :
    OwnAc (((((w.setCell ⟨o, k * 6, none⟩ (.int .i64 a0)).setCell ⟨o, k * 6 + 1, none⟩ (.int .i64 a1)).setCell ⟨o, k * 6 + 2, none⟩ (.int .i64 a2)).setCell ⟨o, k * 6 + 3, none⟩ (.int .i64 a3)).setCell ⟨o, k * 6 + 4, none⟩ (.int .i64 a4)) B (.slice (some ⟨o, 0, none⟩) n cap) n vs (ts.set k ⟨a0, a1, a2, a3, a4, (Ch.acAt ts k).an⟩) ∧
    w.grownBy (((((w.setCell ⟨o, k * 6, none⟩ (.int .i64 a0)).setCell ⟨o, k * 6 + 1, none⟩ (.int .i64 a1)).setCell ⟨o, k * 6 + 2, none⟩ (.int .i64 a2)).setCell ⟨o, k * 6 + 3, none⟩ (.int .i64 a3)).setCell ⟨o, k * 6 + 4, none⟩ (.int .i64 a4)) (some o) := by
  obtain ⟨hl, hvl, ⟨cs, ho, hcs⟩, hi, hd, hd'⟩ := h
  have hst := owns_stored5 ho (k * 6) (.int .i64 a0) (.int .i64 a1) (.int .i64 a2) (.int .i64 a3) (.int .i64 a4)
  refine ⟨⟨by simpa using hl, hvl, ⟨_, hst.1, fun i j hin hj => ?_⟩, fun i hlt => ?_, hd, hd'⟩, hst.2⟩
  · rw [set5 hk ho.1 _ _ _ _ _ i j hj, Ch.acAt_set ts k i _ (by omega)]
    by_cases hik : k = i
    · subst hik
      rw [if_pos rfl]
      match j, hj with
      | 0, _ => rw [if_pos ⟨rfl, by decide⟩]; rfl
      | 1, _ => rw [if_pos ⟨rfl, by decide⟩]; rfl
      | 2, _ => rw [if_pos ⟨rfl, by decide⟩]; rfl
      | 3, _ => rw [if_pos ⟨rfl, by decide⟩]; rfl
      | 4, _ => rw [if_pos ⟨rfl, by decide⟩]; rfl
      | 5, _ => rw [if_neg (by omega)]; exact hcs k 5 hk (by omega)
    · rw [if_neg (by omega), if_neg hik]
      exact hcs i j hin hj
  · obtain ⟨y, h1, h2⟩ := hi i hlt
    have e : (Ch.acAt (ts.set k ⟨a0, a1, a2, a3, a4, (Ch.acAt ts k).an⟩) i).an = (Ch.acAt ts i).an := by
      rw [Ch.acAt_set ts k i _ (by omega)]
      by_cases hik : k = i
      · subst hik; rw [if_pos rfl]
      · rw [if_neg hik]
    refine ⟨y, h1, ?_⟩
    rw [e]
    exact owns_grown h2 hst.2 fun g hg he => hd' i y g h1 he hg

theorem OwnAc.fiveB {w : World} {B o n cap k : Nat} {ts : List Ch.Ac} {vs : List Value} (h : OwnAc w B (.slice (some ⟨o, 0, none⟩) n cap) n vs ts) (hk : k < n) (a0 a1 a2 a3 a4 : Int) :
    OwnAc (((((w.setCell ⟨o, k * 6, none⟩ (.int .i64 a0)).setCell ⟨o, k * 6 + 1, none⟩ (.int .i64 a1)).setCell ⟨o, k * 6 + 1 + 1, none⟩ (.int .i64 a2)).setCell ⟨o, k * 6 + 1 + 2, none⟩ (.int .i64 a3)).setCell ⟨o, k * 6 + 1 + 3, none⟩ (.int .i64 a4)) B (.slice (some ⟨o, 0, none⟩) n cap) n vs (ts.set k ⟨a0, a1, a2, a3, a4, (Ch.acAt ts k).an⟩) ∧
    w.grownBy (((((w.setCell ⟨o, k * 6, none⟩ (.int .i64 a0)).setCell ⟨o, k * 6 + 1, none⟩ (.int .i64 a1)).setCell ⟨o, k * 6 + 1 + 1, none⟩ (.int .i64 a2)).setCell ⟨o, k * 6 + 1 + 2, none⟩ (.int .i64 a3)).setCell ⟨o, k * 6 + 1 + 3, none⟩ (.int .i64 a4)) (some o) := by
  have := h.five hk a0 a1 a2 a3 a4
  rw [show k * 6 + 4 = k * 6 + 1 + 3 from rfl, show k * 6 + 3 = k * 6 + 1 + 2 from rfl, show k * 6 + 2 = k * 6 + 1 + 1 from rfl] at this
  exact this

/-- The Answer of an act: where it lies, and what comes of it when it alone is written. -/
theorem OwnAc.inner {w : World} {B n cap : Nat} {a : Option Addr} {vs : List Value} {ts : List Ch.Ac} (h : OwnAc w B (.slice a n cap) n vs ts) {k : Nat} (hk : k < n) :
    ∃ b ai ci, a = some ⟨b, 0, none⟩ ∧ b < w.heap.size ∧ w.cell? ⟨b, k * 6 + 5, none⟩ = some (.slice ai (Ch.acAt ts k).an.length ci) ∧ vs[k]? = some (.slice ai (Ch.acAt ts k).an.length ci) ∧ w.ownsRow B 2 1 (.slice ai (Ch.acAt ts k).an.length ci) (Ch.acAt ts k).an.length (icells (Ch.acAt ts k).an) ∧
      ∀ (w' : World) (l' : List Int), w.grownBy w' (Value.slice ai (Ch.acAt ts k).an.length ci).ownBlock → w'.ownsRow B 2 1 (.slice ai (Ch.acAt ts k).an.length ci) l'.length (icells l') → OwnAc w' B (.slice a n cap) n vs (ts.set k { Ch.acAt ts k with an := l' }) := by
  obtain ⟨hl, hvl, ⟨cs, ho, hcs⟩, hi, hd, hd'⟩ := h
  obtain ⟨x, h1, h2⟩ := hi k hk
  obtain ⟨ai, ci, rfl⟩ := owns_shape h2
  have hc := owns_cells ho
  rcases ho.2 with ⟨hv, h0⟩ | ⟨g, cp, cur, hv, _⟩
  · omega
  simp only [Value.slice.injEq, true_and] at hv
  obtain ⟨rfl, rfl⟩ := hv
  obtain ⟨b, off, ha, hcc⟩ := hc.2 (by omega)
  simp only [Option.some.injEq, Addr.mk.injEq, and_true] at ha
  obtain ⟨rfl, rfl⟩ := ha
  have hck := (hcc (k * 6 + 5) (by omega)).trans (hcs k 5 hk (by omega))
  have e5 : ac6 (Ch.acAt ts k) (vs.getD k (.slice none 0 0)) 5 = .slice ai (Ch.acAt ts k).an.length ci := by simp [ac6, List.getD, h1]
  rw [e5, Nat.zero_add] at hck
  refine ⟨g, ai, ci, rfl, lt_of_cell hck, hck, h1, h2, ?_⟩
  intro w' l' hg hw'
  refine ⟨by simpa using hl, hvl, ⟨cs, owns_grown ho hg fun g' hg' e => hd' k _ g' h1 hg' e, fun i j hin hj => ?_⟩, fun i hlt => ?_, hd, hd'⟩
  · rw [hcs i j hin hj, Ch.acAt_set ts k i _ (by omega)]
    by_cases hik : k = i
    · subst hik
      rw [if_pos rfl]
      match j, hj with
      | 0, _ => rfl
      | 1, _ => rfl
      | 2, _ => rfl
      | 3, _ => rfl
      | 4, _ => rfl
      | 5, _ => rfl
    · rw [if_neg hik]
  · rw [Ch.acAt_set ts k i _ (by omega)]
    by_cases hik : k = i
    · subst hik
      rw [if_pos rfl]
      exact ⟨_, h1, hw'⟩
    · rw [if_neg hik]
      obtain ⟨y, h3, h4⟩ := hi i hlt
      refine ⟨y, h3, owns_grown h4 hg fun g' hg' e => ?_⟩
      rcases Nat.lt_or_gt_of_ne hik with hlt' | hgt
      · exact hd k i _ y g' hlt' h1 h3 e hg'
      · exact hd i k y _ g' hgt h3 h1 hg' e

/-- Where the marks of the k-th act begin. -/
def Ch.acPos (ts : List Ch.Ac) (k : Nat) : Nat := 5 * k + ((ts.take k).map (·.an.length)).sum
theorem Ch.acPos_next (ts : List Ch.Ac) (k : Nat) (h : k < ts.length) : Ch.acPos ts (k + 1) = Ch.acPos ts k + 5 + (Ch.acAt ts k).an.length := by
  unfold Ch.acPos
  rw [Ch.ac_take ts k h]
  omega
theorem Ch.acPos_small {ts : List Ch.Ac} {N : Nat} (hs : Ch.acSize ts ≤ N) (k : Nat) (hk : k ≤ ts.length) : Ch.acPos ts k ≤ 5 * N := by
  have := Ch.ac_le ts k
  unfold Ch.acSize at hs
  unfold Ch.acPos
  omega

set_option maxHeartbeats 2000000 in
theorem markActS_any (s : Int) (B : Nat) (a : Option Addr) (n cap : Nat) (ts : List Ch.Ac) (vs : List Value) (w0 w : World) (h : OwnAc w0 B (.slice a n cap) n vs ts) (hb : Below w0.heap.size w0 w) (hs : Ch.acSize ts ≤ 1048576) (hs0 : 0 < s) (hs1 : s ≤ 1073741824) :
    Calls Try.prog 19 #[.slice a n cap, .int .i64 s] w fun e w' => e = .returned (.int .i64 (s + (Ch.acPos ts n : Int))) ∧ Within B w0.heap.size w w' := by
  have HL : Hid (ts.length = n) := h.1
  have hlt0 := hid h.lt
  have hlt1 := hid h.lt0
  replace h := h.below hb
  have hn : n ≤ 1048576 := by have := Ch.acSize_len hs; have := HL.out; omega
  go_enter Try.func19, Try.ntmps19
  go_wp2
  go_loopw [1, 5] (fun q i wr => ∃ (k : Nat) (us : List Ch.Ac), k ≤ n ∧ i = .int .i64 k ∧ q = .int .i64 (s + (Ch.acPos ts k : Int)) ∧ OwnAc wr B (.slice a n cap) n vs us ∧ Hid (∀ i, (Ch.acAt us i).an.length = (Ch.acAt ts i).an.length) ∧ Within B w0.heap.size w wr) (fun _ i _ => n - (intOf i).toNat)
  case atStart => exact ⟨0, ts, Nat.zero_le _, rfl, by simp [Ch.acPos], h, fun _ => rfl, Within.refl _ _ _⟩
  case round =>
    obtain ⟨k, us, hk, rfl, rfl, own, HU, hW⟩ := hrel
    by_cases hlt : k < n
    · have hkl : k < ts.length := by have := HL.out; omega
      have HS := hid (Ch.ac_one hs k)
      have HB := hid (Ch.acPos_next ts k hkl)
      have hbs := Ch.acPos_small hs k (by omega)
      have hku : Hid (k < us.length) := by show _ < _; have := own.1; omega
      obtain ⟨b, ai, ci, rfl, hbl, hc, hvk, ho, _⟩ := own.inner hlt
      obtain ⟨_, _, ⟨cs, hO, hcs⟩, _⟩ := own
      have own : OwnAc wr B (.slice (some ⟨b, 0, none⟩) n cap) n vs us := ⟨by assumption, by assumption, ⟨cs, hO, hcs⟩, by assumption⟩
      have hf0 := hO.frozenAt (k * 6)
      have hf1 := hO.frozenAt (k * 6 + 1)
      have hf2 := hO.frozenAt (k * 6 + 1 + 1)
      have hf3 := hO.frozenAt (k * 6 + 1 + 2)
      have hf4 := hO.frozenAt (k * 6 + 1 + 3)
      obtain ⟨u0, hd0⟩ := owns_some hO (j := k * 6) (by omega)
      obtain ⟨u1, hd1⟩ := owns_some hO (j := k * 6 + 1) (by omega)
      obtain ⟨u2, hd2⟩ := owns_some hO (j := k * 6 + 1 + 1) (by omega)
      obtain ⟨u3, hd3⟩ := owns_some hO (j := k * 6 + 1 + 2) (by omega)
      obtain ⟨u4, hd4⟩ := owns_some hO (j := k * 6 + 1 + 3) (by omega)
      generalize Ch.acPos ts k = q at *
      obtain ⟨own5, gr5⟩ := own.fiveB hlt (s + (q : Int)) (s + (q : Int) + 1) (s + (q : Int) + 1 + 1) (s + (q : Int) + 1 + 1 + 1) (s + (q : Int) + 1 + 1 + 1 + 1)
      clear hO hcs
      have HU5 : Hid (Ch.acAt (us.set k ⟨s + (q : Int), s + (q : Int) + 1, s + (q : Int) + 1 + 1, s + (q : Int) + 1 + 1 + 1, s + (q : Int) + 1 + 1 + 1 + 1, (Ch.acAt us k).an⟩) k = ⟨s + (q : Int), s + (q : Int) + 1, s + (q : Int) + 1 + 1, s + (q : Int) + 1 + 1 + 1, s + (q : Int) + 1 + 1 + 1 + 1, (Ch.acAt us k).an⟩) := by
        show _ = _
        rw [Ch.acAt_set us k k _ hku.out, if_pos rfl]
      obtain ⟨b', ai', ci', h1', h2', h3', hvk', ho5, hput⟩ := own5.inner hlt
      clear h1' h2' h3' b'
      rw [HU5.out] at hvk' ho5 hput
      simp only at hvk' ho5 hput
      rw [hvk] at hvk'
      simp only [Option.some.injEq, Value.slice.injEq, true_and] at hvk'
      obtain ⟨rfl, rfl⟩ := hvk'
      have HLn := hid (HU.out k)
      have hln : Hid ((Ch.acAt us k).an.length ≤ 4194304) := by show _ ≤ _; have h1 := HLn.out; have h2 := HS.out; omega
      have HUn : Hid (∀ l' : List Int, l'.length = (Ch.acAt us k).an.length → ∀ i, (Ch.acAt ((us.set k ⟨s + (q : Int), s + (q : Int) + 1, s + (q : Int) + 1 + 1, s + (q : Int) + 1 + 1 + 1, s + (q : Int) + 1 + 1 + 1 + 1, (Ch.acAt us k).an⟩).set k ⟨s + (q : Int), s + (q : Int) + 1, s + (q : Int) + 1 + 1, s + (q : Int) + 1 + 1 + 1, s + (q : Int) + 1 + 1 + 1 + 1, l'⟩) i).an.length = (Ch.acAt ts i).an.length) := by
        intro l' hl' i
        rw [Ch.acAt_set _ k i _ (by simpa using hku.out), Ch.acAt_set us k i _ hku.out]
        by_cases hik : k = i
        · subst hik
          rw [if_pos rfl]
          exact hl'.trans (HU.out k)
        · rw [if_neg hik, if_neg hik]
          exact HU.out i
      clear own HU5 own5
      have HPut := hid hput
      have HO5 := hid ho5
      have HG5 := hid gr5
      clear hput ho5 gr5 ho
      go_wp2_with fail
      have ho5 := HO5.out
      have gr5 := HG5.out
      refine (markInts_any (s + (q : Int) + 1 + 1 + 1 + 1 + 1) B (Ch.acAt us k).an.length ai ci (Ch.acAt us k).an _ (by omega) (by omega) ho5 hln.out).mono ?_
      rintro e w6 ⟨rfl, own6, gr6⟩
      have own7 := HPut.out w6 (imarks (s + (q : Int) + 1 + 1 + 1 + 1 + 1) (Ch.acAt us k).an.length) gr6 (by rw [imarks_len]; exact own6)
      have hlb := hlt1.out b rfl
      have hW6 : Within B w0.heap.size w w6 := by
        refine (hW.trans (within_grown gr5 hlb.1 hlb.2)).trans ?_
        rcases ho5.2 with ⟨hv, _⟩ | ⟨g, cp, cur, hv, _⟩
        · rw [hv] at gr6
          exact ⟨gr6.os, gr6.tape, gr6.output, gr6.size, fun j hj _ => gr6.block j hj (by simp [Value.ownBlock])⟩
        · have hgb := hlt0.out k _ g hvk (by rw [hv]; rfl)
          rw [hv] at gr6
          exact within_grown gr6 hgb.1 hgb.2
      go_wp2
      go_roundw
      case rel => exact ⟨k + 1, _, by omega, by go_num, by rw [HB.out, ← HLn.out]; simp; omega, own7, HUn.out _ (imarks_len _ _), hW6⟩
      case measure => simp [intOf]; omega
    · obtain rfl : k = n := by omega
      go_wp2
      go_ret
      exact ⟨rfl, hW⟩
end Go.Proofs.Ytlpncikiaojmiaa
