
/- The program's faults of a lock: who stands twice (a set), the head, those that convert, the queue. -/
import Derived.Test.YtjagobcogkdfhaaLkW
import Derived.Deep.DeepCutAuto
namespace Go.Proofs.Ytjagobcogkdfhaa
open Go.RowKit Go.Maps

def kk (key : Int) : Lit := .int .i64 key
theorem Try.keyed : Keyed Try.prog 2 := int_keyed Try.underlying2
theorem kk_key {key : Int} (h0 : 1 ≤ key) (h1 : key ≤ 999) : keyOf Try.prog 2 (.int .i64 key) = some (kk key) := keyOf_int_mk Try.underlying2 (WalkArith.wf_i64 (by omega))
theorem kk_isKey (key : Int) : WideAt.IsKeyLit (kk key) := by unfold kk; simp [WideAt.IsKeyLit]
theorem kk_ne {a b : Int} (h : a ≠ b) : kk a ≠ kk b := by unfold kk; simpa using h

/-- What the set holds ahead of the k-th. -/
structure TwM (hs : List Ch.Hold) (D : DataW Unit) (k : Nat) : Prop where
  size : Maps.size D = Ch.cntAt hs k
  has : ∀ t, Maps.has D (kk t) = Ch.hasH (hs.take k) t
theorem TwM.empty (hs : List Ch.Hold) : TwM hs (.map []) 0 := ⟨rfl, fun _ => rfl⟩
theorem TwM.put {hs : List Ch.Hold} {D : DataW Unit} {k : Nat} (h : TwM hs D k) (hk : k < hs.length) (hD : Tidy D) (d : DataW Unit) : TwM hs (D.put (kk (hs.getD k Ch.Hold.zero).t) d) (k + 1) := by
  refine ⟨?_, fun t => ?_⟩
  · rw [size_put hD, h.has, h.size]; rfl
  · have e : Ch.hasH (hs.take (k + 1)) t = (Ch.hasH (hs.take k) t || ((hs.getD k Ch.Hold.zero).t == t)) := by
      unfold Ch.hasH
      rw [Ch.take_snoc hs Ch.Hold.zero k hk, List.any_append]; simp
    rw [e]
    by_cases ht : (hs.getD k Ch.Hold.zero).t = t
    · rw [ht, has_put_same hD.isMap (kk_isKey _)]; simp
    · rw [has_put_other (kk_ne (fun h => ht h.symm)), h.has]
      have : ((hs.getD k Ch.Hold.zero).t == t) = false := by simpa using ht
      rw [this]; simp

set_option maxHeartbeats 1000000 in
theorem hasTwice_any (a : Option Addr) (n cap : Nat) (hs : List Ch.Hold) (w : World) (h : CellsAt w a (n * 2) (hcells hs)) (hn : n ≤ 1048576) (hg : Ch.namesH hs = true) :
    Calls Try.prog 151 #[.slice a n cap] w fun e w' => e = .returned (.bool (Ch.twice hs)) ∧ Below w.heap.size w w' := by
  have HL := h.hlen
  have HG := hid hg
  have hmm := @run_makeMap Try.prog
  have hmade := World.ownsMap_made (H := Unit) w Try.prog 2 unitElem
  clear hg
  go_enter Try.func151, Try.ntmps151
  go_wp2
  go_loopw [9] (fun i wr => ∃ (k : Nat) (D : DataW Unit), k ≤ n ∧ i = .int .i64 k ∧ wr.ownsMap Try.prog 2 unitElem w.heap.size k D ∧ TwM hs D k ∧ Below w.heap.size w wr) (fun i _ => n - (intOf i).toNat)
  case atStart => exact ⟨0, _, Nat.zero_le _, rfl, hmade, TwM.empty hs, (Below.refl _ _).alloc (Nat.le_refl _) _⟩
  case round =>
    obtain ⟨k, D, hk, rfl, own, hP, hB⟩ := hrel
    by_cases hlt : k < n
    · have hkl : k < hs.length := by have := HL.out; omega
      have HP1 := hid (hP.put hkl (own.tidy Try.keyed) (.agg []))
      have HM := hid (Ch.name_mode (Ch.names_at HG.out hkl))
      obtain ⟨b1, o1, rfl, q0, q1⟩ := (h.below hB).hold hlt
      have hbl1 := lt_of_cell q0
      generalize hs.getD k Ch.Hold.zero = r at *
      obtain ⟨rt, rm⟩ := r
      simp only at q0 q1 HP1 HM
      have hkey := kk_key (key := rt) HM.out.2.2.2.1 HM.out.2.2.2.2
      clear hmade hmm
      go_wp2_with (at_mapUpdate; go_must (refine wpList_mapUpdate_own _ rfl _ _ _ 215 rfl 2 216 Try.keyed Try.underlying215 unitElem w.heap.size k D rfl (own.alloc _) ?_ _ _ _ rfl rfl hkey _ [] unitElem_mk ?_; (focus (unfold maxLen; omega)); intro w1 own1 gr1))
      go_roundw
      case rel =>
        refine ⟨k + 1, _, by omega, by go_num, own1, HP1.out, ?_⟩
        exact (hB.alloc hB.size _).grown gr1 (by simp; exact Nat.le_trans hB.size (by omega)) (fun j hj => by cases hj; exact Nat.le_refl _)
      case measure => simp [intOf]; omega
    · obtain rfl : k = n := by omega
      have HS := hid hP.size
      clear hmade hmm
      have hlen := fun ty => own.len Try.underlying215 ty
      go_wp2
      go_ret
      refine ⟨ret_bool ?_, hB⟩
      have h1 := (Ch.cnt_twice hs k).2
      rw [HS.out]
      unfold Ch.twice
      rw [← HL.out, ← h1]

theorem isRes_any (v : Int) (w : World) :
    Calls Try.prog 148 #[.int .i64 v] w fun e w' => e = .returned (.bool (Ch.inB v 0 100)) ∧ w' = w := by
  unfold Ch.inB
  by_cases h1 : 0 ≤ v
  all_goals by_cases h2 : v ≤ 100
  all_goals
    go_enter Try.func148, Try.ntmps148
    go_wp2
    go_ret
    exact ⟨by simp [h1, h2], rfl⟩

theorem viewLock_any (r : Int) (ah : Option Addr) (nh ch : Nat) (aq : Option Addr) (nq cq : Nat) (w : World) :
    Calls Try.prog 149 #[.agg #[.int .i64 r, .slice ah nh ch, .slice aq nq cq]] w fun e w' => e = .returned (.agg #[.int .i64 r, .slice ah nh ch, .slice aq nq cq]) ∧ Below w.heap.size w w' := by
  go_enter Try.func149, Try.ntmps149
  go_wp2
  refine bodyPost_ret (v := .agg #[.int .i64 r, .slice ah nh ch, .slice aq nq cq]) (by simp [results, Try.results149, go_sem]) rfl ⟨rfl, ?_⟩
  exact Below.alloc (Below.alloc (Below.refl _ _) (Nat.le_refl _) _) (by simp) _

theorem isUnused_any (r : Int) (ah : Option Addr) (nh ch : Nat) (aq : Option Addr) (nq cq : Nat) (w : World) :
    Calls Try.prog 182 #[.agg #[.int .i64 r, .slice ah nh ch, .slice aq nq cq]] w fun e w' => e = .returned (.bool (nh + nq == 0)) ∧ Below w.heap.size w w' := by
  cases nh with
  | zero =>
    cases nq with
    | zero =>
      go_enter Try.func182, Try.ntmps182
      go_wp2
      go_ret
      exact ⟨rfl, (Below.refl _ _).alloc (Nat.le_refl _) _⟩
    | succ m =>
      have h1 : (((m + 1 : Nat) : Int) == 0) = false := by simp; omega
      go_enter Try.func182, Try.ntmps182
      go_wp2
      go_ret
      exact ⟨ret_bool (by simp; omega), (Below.refl _ _).alloc (Nat.le_refl _) _⟩
  | succ m =>
    have h1 : (((m + 1 : Nat) : Int) == 0) = false := by simp; omega
    go_enter Try.func182, Try.ntmps182
    go_wp2
    go_ret
    exact ⟨ret_bool (by simp), (Below.refl _ _).alloc (Nat.le_refl _) _⟩

theorem hasRoom_any (r : Int) (ah : Option Addr) (nh ch : Nat) (aq : Option Addr) (nq cq : Nat) (t : Int) (hs : List Ch.Hold) (w : World) (h : CellsAt w ah (nh * 2) (hcells hs)) (hn : nh ≤ 1048576) :
    Calls Try.prog 233 #[.agg #[.int .i64 r, .slice ah nh ch, .slice aq nq cq], .int .i64 t] w fun e w' => e = .returned (.bool (Ch.hasH hs t || decide (nh < 20))) ∧ Below w.heap.size w w' := by
  have kA : ∀ o, Below w.heap.size w (w.alloc o) := fun o => (Below.refl _ _).alloc (Nat.le_refl _) o
  have IH := fun W hW => has_any ah nh ch t hs W hW hn
  cases hh : Ch.hasH hs t
  all_goals rw [hh] at IH
  · go_enter Try.func233, Try.ntmps233
    go_wp2_with fail
    refine (IH _ (h.below (kA _))).mono ?_
    rintro e w1 ⟨rfl, b1⟩
    have x1 := box_cell b1 1
    simp only [List.getElem?_toArray, List.getElem?_cons_zero, List.getElem?_cons_succ] at x1
    go_wp2
    go_ret
    exact ⟨ret_bool (by simp; omega), below_box b1⟩
  · go_enter Try.func233, Try.ntmps233
    go_wp2_with fail
    refine (IH _ (h.below (kA _))).mono ?_
    rintro e w1 ⟨rfl, b1⟩
    go_wp2
    go_ret
    exact ⟨ret_bool (by simp), below_box b1⟩

theorem head_nil (aq : Option Addr) (cq : Nat) (w : World) :
    Calls Try.prog 232 #[.agg #[.slice aq 0 cq]] w fun e w' => e = .returned (.tuple #[.agg #[.int .i64 0, .int .i64 0], .bool false]) ∧ Below w.heap.size w w' := by
  go_enter Try.func232, Try.ntmps232
  go_wp2
  refine bodyPost_ret (v := .tuple #[.agg #[.int .i64 0, .int .i64 0], .bool false]) (by simp [results, Try.results232, go_sem]) rfl ⟨rfl, ?_⟩
  exact Below.alloc (Below.alloc (Below.refl _ _) (Nat.le_refl _) _) (by simp) _

theorem head_cons (qb qo nq cq : Nat) (rt rm : Int) (w : World) (h0 : 0 < nq) (q0 : w.cell? ⟨qb, qo, none⟩ = some (.int .i64 rt)) (q1 : w.cell? ⟨qb, qo + 1, none⟩ = some (.int .i64 rm)) :
    Calls Try.prog 232 #[.agg #[.slice (some ⟨qb, qo, none⟩) nq cq]] w fun e w' => e = .returned (.tuple #[.agg #[.int .i64 rt, .int .i64 rm], .bool true]) ∧ Below w.heap.size w w' := by
  obtain ⟨m, rfl⟩ : ∃ m, nq = m + 1 := ⟨nq - 1, by omega⟩
  have hqb := lt_of_cell q0
  have h1 : (((m + 1 : Nat) : Int) == 0) = false := by simp; omega
  clear h0
  go_enter Try.func232, Try.ntmps232
  go_wp2
  refine bodyPost_ret (v := .tuple #[.agg #[.int .i64 rt, .int .i64 rm], .bool true]) (by simp [results, Try.results232, go_sem]) rfl ⟨rfl, ?_⟩
  exact Below.alloc (Below.alloc (Below.refl _ _) (Nat.le_refl _) _) (by simp) _

set_option maxHeartbeats 1000000 in
theorem headFits_any (r : Int) (ah : Option Addr) (nh ch : Nat) (aq : Option Addr) (nq cq : Nat) (hs qs : List Ch.Hold) (w : World) (h : CellsAt w ah (nh * 2) (hcells hs)) (h4 : CellsAt w aq (nq * 2) (hcells qs)) (hn : nh ≤ 1048576) :
    Calls Try.prog 218 #[.agg #[.int .i64 r, .slice ah nh ch, .slice aq nq cq]] w fun e w' => e = .returned (.bool (Ch.headFits hs qs)) ∧ Below w.heap.size w w' := by
  have HQ := h4.hlen
  have HL := h.hlen
  have kA : ∀ o, Below w.heap.size w (w.alloc o) := fun o => (Below.refl _ _).alloc (Nat.le_refl _) o
  cases nq with
  | zero =>
    have HR : Hid (Ch.headFits hs qs = false) := by
      have : qs = [] := List.length_eq_zero_iff.1 (by have := HQ.out; omega)
      subst this
      rfl
    go_enter Try.func218, Try.ntmps218
    go_wp2_with fail
    refine (head_nil aq cq _).mono ?_
    rintro e w1 ⟨rfl, b1⟩
    go_wp2
    go_ret
    exact ⟨ret_bool HR.out.symm, (below_box b1).alloc (below_box b1).size _⟩
  | succ m =>
    have HR := hid (Ch.headFits_pos (hs := hs) (qs := qs) (by have := HQ.out; omega))
    obtain ⟨qb, qo, rfl, q0, q1⟩ := h4.hold (k := 0) (by omega)
    generalize qs.getD 0 Ch.Hold.zero = q at *
    obtain ⟨rt, rm⟩ := q
    simp only [Nat.zero_mul, Nat.add_zero] at q0 q1 HR
    have IR := fun W hW => hasRoom_any r ah nh ch (some ⟨qb, qo, none⟩) (m + 1) cq rt hs W hW hn
    have IF := fun W hW => fitOthers_any ah nh ch rt rm hs W hW hn
    have HRR : Hid (Ch.headFits hs qs = ((Ch.hasH hs rt || decide (nh < 20)) && Ch.fitsH hs rt rm)) := by rw [HL.out]; exact HR.out
    clear HR
    cases hr : (Ch.hasH hs rt || decide (nh < 20))
    all_goals rw [hr] at IR
    all_goals
      go_enter Try.func218, Try.ntmps218
      go_wp2_with fail
      refine (head_cons qb qo (m + 1) cq rt rm _ (by omega) (keep_cell (kA _) q0) (keep_cell (kA _) q1)).mono ?_
      rintro e w1 ⟨rfl, b1⟩
      have x0 := box_cell b1 0
      have x1 := box_cell b1 1
      have x2 := box_cell b1 2
      simp only [List.getElem?_toArray, List.getElem?_cons_zero, List.getElem?_cons_succ] at x0 x1 x2
      have b1' := below_box b1
      have lz := lt_of_cell x0
      have kB : ∀ o, Below w.heap.size w (w1.alloc o) := fun o => b1'.alloc b1'.size o
      clear b1
      go_wp2_with fail
      refine (IR _ (h.below (kB _))).mono ?_
      rintro e w2 ⟨rfl, b2⟩
    · have b2' := (kB _).trans (b2.mono (kB _).size)
      go_wp2
      go_ret
      exact ⟨ret_bool (by rw [HRR.out, hr]; rfl), b2'⟩
    · have b2' := (kB _).trans (b2.mono (kB _).size)
      have y0 := box_cell b2 0
      have y1 := box_cell b2 1
      simp only [List.getElem?_toArray, List.getElem?_cons_zero, List.getElem?_cons_succ] at y0 y1
      have b2w := below_box b2
      have x1 := keep_cell b2w x1
      have ly := lt_of_cell y0
      have lz := lt_of_cell x1
      clear b2
      go_wp2_with fail
      refine (IF _ (h.below b2')).mono ?_
      rintro e w3 ⟨rfl, b3⟩
      go_wp2
      go_ret
      exact ⟨ret_bool (by rw [HRR.out, hr]; simp), b2'.trans (b3.mono b2'.size)⟩
end Go.Proofs.Ytjagobcogkdfhaa
