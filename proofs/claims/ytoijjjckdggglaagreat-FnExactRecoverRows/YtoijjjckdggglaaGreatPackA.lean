
/- Walks of a record's bytes: the model's. -/
import Derived.Test.YtoijjjckdggglaaGreatRecL
import Derived.Deep.DeepCutAuto
namespace Go.Proofs.YtoijjjckdggglaaGreat
open Go.RowKit

theorem hTake {P : Program} {l : List Oper} {Q : Exit → Act → World → Prop} {md : Region.Mode} {S : World → Prop} {i : Nat} {oi : Oper} {v : Value} {fuel : Nat} {listed : Array Bool} {a : Act} {w : World} (hi : l[i]? = some oi)
    (hs : Region.noSelect l.toArray = true) (hf : Region.free md l.toArray listed i = true) (hr : (Region.ready md l.toArray listed).contains i = true)
    (hw : Region.wanted oi (yielded l.toArray a.tmps) = true) (hy : ∀ W, S W → (execOp a.eval oi).run P W = .ok (.value v) W) (hS : S w)
    (h : wpAnyH P md l.toArray (NoPanic Q) S fuel (listed.setIfInBounds i true) (a.put oi.dst v) w) : wpAnyH P md l.toArray (NoPanic Q) S (fuel + 1) listed a w :=
  wpAnyH_take (by simpa using hi) hs hf hr (fun _ _ _ h => h) (Or.inl ⟨hw, hy⟩) hS h
theorem hSkip {P : Program} {l : List Oper} {Q : Exit → Act → World → Prop} {md : Region.Mode} {S : World → Prop} {i : Nat} {oi : Oper} {fuel : Nat} {listed : Array Bool} {a : Act} {w : World} (hi : l[i]? = some oi)
    (hs : Region.noSelect l.toArray = true) (hf : Region.free md l.toArray listed i = true) (hr : (Region.ready md l.toArray listed).contains i = true)
    (hw : Region.wanted oi (yielded l.toArray a.tmps) = false) (hS : S w)
    (h : wpAnyH P md l.toArray (NoPanic Q) S fuel (listed.setIfInBounds i true) (a.put oi.dst undef) w) : wpAnyH P md l.toArray (NoPanic Q) S (fuel + 1) listed a w :=
  wpAnyH_take (by simpa using hi) hs hf hr (fun _ _ _ h => h) (Or.inr ⟨hw, rfl⟩) hS h

/-- An append inside a region: what it is appended to is found behind. -/
theorem step_appE {ops : Array Oper} {o : Oper} {a : Act} {w : World} {K : Act → World → Prop} {Q : Exit → Act → World → Prop} {E : Prop} (s x : Operand)
    (B n : Nat) (xs : List Value) (m : Nat) (cs : Array Value) (hm : 0 < m ∧ cs.size = m ∧ n + m ≤ 1099511627776)
    (ho : o.op = .call { callee := .builtin .append, args := #[s, x], argTypes := #[23, 23] }) (hgd : o.guard = none)
    (hs : ∃ g cp, a.eval s = .slice (some ⟨g, 0, none⟩) n cp ∧ w.ownsRow B 5 1 (.slice (some ⟨g, 0, none⟩) n cp) n xs)
    (hx : ∃ h c t, a.eval x = .slice (some ⟨h, 0, none⟩) m c ∧ w.heap[h]? = some (.cells cs t (0, 0)))
    (h1 : ∀ u ∈ cs.toList, u.oneCell' = true) (hbase : B ≤ w.heap.size)
    (hK : ∀ g' cp' w', w'.ownsRow B 5 1 (.slice (some ⟨g', 0, none⟩) (n + m) cp') (n + m) (xs ++ cs.toList) → Below B w w' → K (a.put o.dst (.slice (some ⟨g', 0, none⟩) (n + m) cp')) w') :
    if Region.wanted o (yielded ops a.tmps) = true then Oper.wp Tryz.prog o a w K Q else E := by
  obtain ⟨g, cp, hs, hown⟩ := hs
  exact step_app s x B g n cp xs m cs ⟨hm.1, hm.2.1, hm.2.2, (owns_bounds hown).1⟩ ho hgd hs hx hown h1 hbase (fun g' cp' w' ho hg => hK g' cp' w' ho hg.below)

theorem wpList_appE {ops : Array Oper} {rest : List Oper} {o : Oper} {a : Act} {w : World} {Q : Exit → Act → World → Prop} (s x : Operand)
    (B n : Nat) (xs : List Value) (m : Nat) (cs : Array Value) (hm : 0 < m ∧ cs.size = m ∧ n + m ≤ 1099511627776)
    (ho : o.op = .call { callee := .builtin .append, args := #[s, x], argTypes := #[23, 23] }) (hgd : o.guard = none)
    (hs : ∃ g cp, a.eval s = .slice (some ⟨g, 0, none⟩) n cp ∧ w.ownsRow B 5 1 (.slice (some ⟨g, 0, none⟩) n cp) n xs)
    (hx : ∃ h c t, a.eval x = .slice (some ⟨h, 0, none⟩) m c ∧ w.heap[h]? = some (.cells cs t (0, 0)))
    (h1 : ∀ u ∈ cs.toList, u.oneCell' = true) (hbase : B ≤ w.heap.size)
    (hK : ∀ g' cp' w', w'.ownsRow B 5 1 (.slice (some ⟨g', 0, none⟩) (n + m) cp') (n + m) (xs ++ cs.toList) → Below B w w' → wpList Tryz.prog ops Q rest (a.put o.dst (.slice (some ⟨g', 0, none⟩) (n + m) cp')) w') :
    wpList Tryz.prog ops Q (o :: rest) a w := by
  obtain ⟨g, cp, hs, hown⟩ := hs
  exact wpList_app s x B g n cp xs m cs ⟨hm.1, hm.2.1, hm.2.2, (owns_bounds hown).1⟩ ho hgd hs hx hown h1 hbase (fun g' cp' w' ho hg => hK g' cp' w' ho hg.below)

/-- The cells of a record in a box. -/
abbrev recO (kd tx ky : Int) (hd : Bool) (ol : Int) (hs : Bool) (nw : Int) : Obj := .cells #[.int .i64 kd, .int .i64 tx, .int .i64 ky, .bool hd, .int .i64 ol, .bool hs, .int .i64 nw] 54

theorem lit_own {w : World} {B g : Nat} (xs : Array Value) (n : Nat) (hn : xs.size = n) (hB : B ≤ w.heap.size) (h1 : n ≤ 1000) (hg : g = w.heap.size) : (w.alloc (.cells xs 5)).ownsRow B 5 1 (.slice (some ⟨g, 0, none⟩) n n) n xs.toList := by
  subst hn hg
  exact World.ownsRow_lit w xs xs.size hB (by unfold maxLen; omega) (Nat.mul_one _).symm

theorem below_boxS {w w1 : World} {o : Obj} (b1 : Below (w.heap.size + 1) (w.alloc o) w1) : Below w.heap.size w w1 :=
  below_box (by simpa using b1)

theorem box_at {w w1 : World} {cs : Array Value} {t : TypeId} (b1 : Below (w.heap.size + 1) (w.alloc (.cells cs t)) w1) (i : Nat) : w1.cell? ⟨w.heap.size, i, none⟩ = cs[i]? :=
  box_cell (by simpa using b1) i

set_option linter.unusedSimpArgs false in
set_option maxHeartbeats 4000000 in
theorem l2Pack_any (kd tx ky : Int) (hd : Bool) (ol : Int) (hs : Bool) (nw : Int) (w : World) (fit : Ch.Rec.Fit ⟨kd, tx, ky, hd, ol, hs, nw⟩) :
    Calls Tryz.prog 42 #[.agg #[.int .i64 kd, .int .i64 tx, .int .i64 ky, .bool hd, .int .i64 ol, .bool hs, .int .i64 nw]] w fun e w' => ∃ g cp, e = .returned (.slice (some ⟨g, 0, none⟩) (Ch.Rec.len ⟨kd, tx, ky, hd, ol, hs, nw⟩) cp) ∧ w'.ownsRow w.heap.size 5 1 (.slice (some ⟨g, 0, none⟩) (Ch.Rec.len ⟨kd, tx, ky, hd, ol, hs, nw⟩) cp) (Ch.Rec.len ⟨kd, tx, ky, hd, ol, hs, nw⟩) (bts (Ch.Rec.bytes ⟨kd, tx, ky, hd, ol, hs, nw⟩)) ∧ Below w.heap.size w w' := by
  have hbts := isB_of (Ch.Rec.body_bytes fit)
  obtain ⟨⟨k0, k1⟩, ⟨t0, t1⟩, ⟨y0, y1⟩, ⟨o0, o1⟩, ⟨n0, n1⟩, hrest⟩ := fit
  clear hrest
  simp only at k0 k1 t0 t1 y0 y1 o0 o1 n0 n1
  have hw0 : IntKind.u8.wrap kd = kd := by simp [IntKind.wrap_u8]; omega
  have hw1 : IntKind.u8.wrap ky = ky := by simp [IntKind.wrap_u8]; omega
  go_enter Tryz.func42, Tryz.ntmps42
  go_upto_region 1 with fail
  go_cut [3] (fun s wx => ∃ g c, s = .slice (some ⟨g, 0, none⟩) 3 c ∧ wx.ownsRow (w.heap.size + 1) 5 1 (.slice (some ⟨g, 0, none⟩) 3 c) 3 (bts [kd, tx / 256, tx % 256]) ∧ Below (w.heap.size + 1) (w.alloc (recO kd tx ky hd ol hs nw)) wx)
  case first =>
    have HS : Hid (∀ W', Below (w.heap.size + 1) (w.alloc (recO kd tx ky hd ol hs nw)) W' → W'.cell? ⟨w.heap.size, 0, none⟩ = some (.int .i64 kd) ∧ W'.cell? ⟨w.heap.size, 1, none⟩ = some (.int .i64 tx) ∧ Below (w.heap.size + 1) (w.alloc (recO kd tx ky hd ol hs nw)) W') := fun W' hb => ⟨by simpa using box_at hb 0, by simpa using box_at hb 1, hb⟩
    refine wp_region_noPanic ?_
    refine wp_region_held_drew (S := fun W' => W'.cell? ⟨w.heap.size, 0, none⟩ = some (.int .i64 kd) ∧ W'.cell? ⟨w.heap.size, 1, none⟩ = some (.int .i64 tx) ∧ Below (w.heap.size + 1) (w.alloc (recO kd tx ky hd ol hs nw)) W') (by kernel_rfl) (HS.out _ (Below.refl _ _).drew) (fun hH => ?_)
    refine hTake (i := 0) (v := ?_) rfl (by kernel_rfl) (by kernel_rfl) (by kernel_rfl) (by rfl) ?_ hH ?_
    rotate_left
    · intro W hW; (try dsimp only at hW); go_simp <;> with_reducible rfl
    simp only [Act.put, List.setIfInBounds_toArray, List.set_cons_zero, List.set_cons_succ]
    refine hTake (i := 1) (v := ?_) rfl (by kernel_rfl) (by kernel_rfl) (by kernel_rfl) (by rfl) ?_ hH ?_
    rotate_left
    · intro W hW; (try dsimp only at hW); go_simp <;> with_reducible rfl
    simp only [Act.put, List.setIfInBounds_toArray, List.set_cons_zero, List.set_cons_succ]
    refine hTake (i := 2) (v := ?_) rfl (by kernel_rfl) (by kernel_rfl) (by kernel_rfl) (by rfl) ?_ hH ?_
    rotate_left
    · intro W hW; (try dsimp only at hW); go_simp <;> with_reducible rfl
    simp only [Act.put, List.setIfInBounds_toArray, List.set_cons_zero, List.set_cons_succ]
    refine hTake (i := 4) (v := ?_) rfl (by kernel_rfl) (by kernel_rfl) (by kernel_rfl) (by rfl) ?_ hH ?_
    rotate_left
    · intro W hW; (try dsimp only at hW); go_simp <;> with_reducible rfl
    simp only [Act.put, List.setIfInBounds_toArray, List.set_cons_zero, List.set_cons_succ]
    refine hTake (i := 5) (v := ?_) rfl (by kernel_rfl) (by kernel_rfl) (by kernel_rfl) (by rfl) ?_ hH ?_
    rotate_left
    · intro W hW; (try dsimp only at hW); go_simp <;> with_reducible rfl
    simp only [Act.put, List.setIfInBounds_toArray, List.set_cons_zero, List.set_cons_succ]
    refine wpAnyH_ready (rs := [3, 6]) (by kernel_rfl) (by simp) ?_
    refine AllReadyH.cons rfl (fun K hK => ?_) (AllReadyH.cons rfl (fun K hK => ?_) AllReadyH.nil)
    focus
      go_simp
      refine hK.out _ _ ?_ (fun hH => ?_)
      · exact HS.out _ (hH.2.2.alloc (by simp) _)
      clear hK K
      refine wpAnyH_ready (rs := [6]) (by kernel_rfl) (by simp) ?_
      refine AllReadyH.cons rfl (fun K hK => ?_) AllReadyH.nil
      go_simp
      refine (two_any _ _ (by omega) (by omega)).mono ?_
      rintro e w' ⟨rfl, rfl⟩
      go_wp2_with fail
      refine hK.out _ _ ?_ (fun hH => ?_)
      · exact HS.out _ (hH.2.2.alloc (by simp) _)
      clear hK K
      refine wpAnyH_ready (rs := [7]) (by kernel_rfl) (by simp) ?_
      refine AllReadyH.cons rfl (fun K hK => ?_) AllReadyH.nil
      refine step_appE (.tmp 8) (.tmp 11) (w.heap.size + 1) 1 [.int .u8 kd] 2 #[.int .u8 (tx / 256), .int .u8 (tx % 256)] ⟨by omega, rfl, by omega⟩ rfl rfl ⟨_, _, rfl, ?_⟩ ⟨_, _, 5, rfl, ?_⟩ ?_ ?_ ?_
      · exact (lit_own #[.int .u8 kd] 1 rfl (by simp) (by omega) (by simp)).alloc _
      · exact heap_new' (by simp)
      · simp [Value.oneCell']
      · simp
      intro g1 c1 w1 own1 gr1
      have bw1 := hH.2.2.trans gr1
      refine hK.out _ _ ?_ (fun hH => ?_)
      · exact HS.out _ bw1
      clear hK K
      simp only [Act.put, List.setIfInBounds_toArray, List.set_cons_zero, List.set_cons_succ]
      refine hTake (i := 8) (v := ?_) rfl (by kernel_rfl) (by kernel_rfl) (by kernel_rfl) (by rfl) ?_ hH ?_
      rotate_left
      · intro W hW; (try dsimp only at hW); go_simp <;> with_reducible rfl
      simp only [Act.put, List.setIfInBounds_toArray, List.set_cons_zero, List.set_cons_succ]
      refine wpAnyH_done (by kernel_rfl) ?_ _
      refine NoPanic.normal ?_
    rotate_left
    focus
      go_simp
      refine (two_any _ _ (by omega) (by omega)).mono ?_
      rintro e w' ⟨rfl, rfl⟩
      go_wp2_with fail
      refine hK.out _ _ ?_ (fun hH => ?_)
      · exact HS.out _ (hH.2.2.alloc (by simp) _)
      clear hK K
      refine wpAnyH_ready (rs := [3]) (by kernel_rfl) (by simp) ?_
      refine AllReadyH.cons rfl (fun K hK => ?_) AllReadyH.nil
      go_simp
      refine hK.out _ _ ?_ (fun hH => ?_)
      · exact HS.out _ (hH.2.2.alloc (by simp) _)
      clear hK K
      refine wpAnyH_ready (rs := [7]) (by kernel_rfl) (by simp) ?_
      refine AllReadyH.cons rfl (fun K hK => ?_) AllReadyH.nil
      refine step_appE (.tmp 8) (.tmp 11) (w.heap.size + 1) 1 [.int .u8 kd] 2 #[.int .u8 (tx / 256), .int .u8 (tx % 256)] ⟨by omega, rfl, by omega⟩ rfl rfl ⟨_, _, rfl, ?_⟩ ⟨_, _, 5, rfl, ?_⟩ ?_ ?_ ?_
      · refine World.ownsRow.drew ?_; exact lit_own #[.int .u8 kd] 1 rfl (by simp) (by omega) (by simp)
      · exact (heap_old' (by simp)).trans (heap_new' (by simp))
      · simp [Value.oneCell']
      · simp
      intro g1 c1 w1 own1 gr1
      have bw1 := hH.2.2.trans gr1
      refine hK.out _ _ ?_ (fun hH => ?_)
      · exact HS.out _ bw1
      clear hK K
      simp only [Act.put, List.setIfInBounds_toArray, List.set_cons_zero, List.set_cons_succ]
      refine hTake (i := 8) (v := ?_) rfl (by kernel_rfl) (by kernel_rfl) (by kernel_rfl) (by rfl) ?_ hH ?_
      rotate_left
      · intro W hW; (try dsimp only at hW); go_simp <;> with_reducible rfl
      simp only [Act.put, List.setIfInBounds_toArray, List.set_cons_zero, List.set_cons_succ]
      refine wpAnyH_done (by kernel_rfl) ?_ _
      refine NoPanic.normal ?_
    rotate_left
    all_goals
      go_wp2_with fail
      go_meet
      exact ⟨g1, c1, rfl, by simpa [bts] using own1, bw1⟩
  case rest =>
    obtain ⟨g, c, rfl, own, hB⟩ := hcut
    have q0 := box_at hB 0
    have q3 := box_at hB 3
    have q5 := box_at hB 5
    simp at q0 q3 q5
    have zb := hB.size
    simp at zb
    cases hset : Ch.sets kd
    · have HB : Hid (Ch.Rec.body ⟨kd, tx, ky, hd, ol, hs, nw⟩ = [kd, tx / 256, tx % 256]) := by show _ = _; simp [Ch.Rec.body, hset]
      have HL : Hid (Ch.Rec.len ⟨kd, tx, ky, hd, ol, hs, nw⟩ = 5) := by show _ = _; simp [Ch.Rec.len, hset]
      have HE : Hid (Ch.Rec.bytes ⟨kd, tx, ky, hd, ol, hs, nw⟩ = Ch.withSum [kd, tx / 256, tx % 256]) := by show _ = _; simp [Ch.Rec.bytes, HB.out]
      rw [HB.out] at hbts
      clear HB
      generalize hp : [kd, tx / 256, tx % 256] = p at *
      obtain ⟨s0, s1⟩ := Ch.sumB_bd p
      go_wp2_with (go_at_call 40; refine (l2Sets_any _ _).mono ?_; rintro e w1 ⟨rfl, hw1⟩; subst w1)
      refine (specSum_any _ 3 c p _ (by simpa using owns_cells own) hbts (by omega)).mono ?_
      rintro e w1 ⟨rfl, hw1⟩
      subst w1
      generalize hq : Ch.sumB p = q at *
      go_wp2_with fail
      refine (two_any _ _ s0 (by omega)).mono ?_
      rintro e w2 ⟨rfl, rfl⟩
      go_wp2_with (at_builtin; refine wpList_appE (.tmp 37) (.tmp 40) (w.heap.size + 1) 3 (bts p) 2 #[.int .u8 (q / 256), .int .u8 (q % 256)] ⟨by omega, rfl, by omega⟩ ?_ ?_ ?_ ?_ ?_ ?_ ?_; exact rfl; exact rfl; exact ⟨_, _, rfl, own.alloc _⟩; (refine ⟨_, _, 5, rfl, ?_⟩; exact heap_new' rfl); (simp [Value.oneCell']); (simp; omega); intro g1 c1 w1 own1 gr1)
      go_ret
      rw [HL.out, HE.out]
      refine ⟨g1, c1, rfl, ?_, ?_⟩
      · have := owns_base own1 (base' := w.heap.size) (by omega)
        simpa [Ch.withSum, bts, hq] using this
      · exact below_boxS (hB.trans (((Below.refl _ _).alloc zb _).trans gr1))
    · have HL : Hid (Ch.Rec.len ⟨kd, tx, ky, hd, ol, hs, nw⟩ = 11) := by show _ = _; simp [Ch.Rec.len, hset]
      have HB : Hid (Ch.Rec.body ⟨kd, tx, ky, hd, ol, hs, nw⟩ = [kd, tx / 256, tx % 256, ky, Ch.Rec.flags ⟨kd, tx, ky, hd, ol, hs, nw⟩, ol / 256, ol % 256, nw / 256, nw % 256]) := by show _ = _; simp [Ch.Rec.body, hset, Ch.Rec.more]
      have HE : Hid (Ch.Rec.bytes ⟨kd, tx, ky, hd, ol, hs, nw⟩ = Ch.withSum [kd, tx / 256, tx % 256, ky, Ch.Rec.flags ⟨kd, tx, ky, hd, ol, hs, nw⟩, ol / 256, ol % 256, nw / 256, nw % 256]) := by show _ = _; simp [Ch.Rec.bytes, HB.out]
      rw [HB.out] at hbts
      clear HB
      go_upto_if 17 with (go_at_call 40; refine (l2Sets_any _ _).mono ?_; rintro e w1 ⟨rfl, hw1⟩; subst w1)
      go_cut [4] (fun s wx => s = .int .u8 (if hd then 1 else 0) ∧ wx = wc)
      case first =>
        cases hd
        all_goals
          go_wp2_with fail
          go_meet
          exact ⟨rfl, rfl⟩
      case rest =>
      obtain ⟨rfl, hwc⟩ := hcut
      subst hwc
      go_upto_if 19 with fail
      go_cut [4] (fun s wx => s = .int .u8 (Ch.Rec.flags ⟨kd, tx, ky, hd, ol, hs, nw⟩) ∧ wx = wc)
      case first =>
        cases hs <;> cases hd
        all_goals
          go_wp2_with fail
          go_meet
          exact ⟨rfl, rfl⟩
      case rest =>
      obtain ⟨rfl, hwc⟩ := hcut
      subst hwc
      have hfl := Ch.Rec.flags_bd ⟨kd, tx, ky, hd, ol, hs, nw⟩
      generalize Ch.Rec.flags ⟨kd, tx, ky, hd, ol, hs, nw⟩ = fl at *
      go_upto_region 8 with fail
      go_cut [3] (fun s wx => ∃ g c, s = .slice (some ⟨g, 0, none⟩) 9 c ∧ wx.ownsRow (w.heap.size + 1) 5 1 (.slice (some ⟨g, 0, none⟩) 9 c) 9 (bts [kd, tx / 256, tx % 256, ky, fl, ol / 256, ol % 256, nw / 256, nw % 256]) ∧ Below (w.heap.size + 1) (w.alloc (recO kd tx ky hd ol hs nw)) wx)
      case first =>
        have HS : Hid (∀ W', Below (w.heap.size + 1) (w.alloc (recO kd tx ky hd ol hs nw)) W' → W'.cell? ⟨w.heap.size, 2, none⟩ = some (.int .i64 ky) ∧ W'.cell? ⟨w.heap.size, 4, none⟩ = some (.int .i64 ol) ∧ W'.cell? ⟨w.heap.size, 6, none⟩ = some (.int .i64 nw) ∧ Below (w.heap.size + 1) (w.alloc (recO kd tx ky hd ol hs nw)) W') := fun W' hb => ⟨by simpa using box_at hb 2, by simpa using box_at hb 4, by simpa using box_at hb 6, hb⟩
        refine wp_region_noPanic ?_
        refine wp_region_held_drew (S := fun W' => W'.cell? ⟨w.heap.size, 2, none⟩ = some (.int .i64 ky) ∧ W'.cell? ⟨w.heap.size, 4, none⟩ = some (.int .i64 ol) ∧ W'.cell? ⟨w.heap.size, 6, none⟩ = some (.int .i64 nw) ∧ Below (w.heap.size + 1) (w.alloc (recO kd tx ky hd ol hs nw)) W') (by kernel_rfl) (HS.out _ hB.drew) (fun hH => ?_)
        refine hTake (i := 0) (v := ?_) rfl (by kernel_rfl) (by kernel_rfl) (by kernel_rfl) (by rfl) ?_ hH ?_
        rotate_left
        · intro W hW; (try dsimp only at hW); go_simp <;> with_reducible rfl
        simp only [Act.put, List.setIfInBounds_toArray, List.set_cons_zero, List.set_cons_succ]
        refine hTake (i := 1) (v := ?_) rfl (by kernel_rfl) (by kernel_rfl) (by kernel_rfl) (by rfl) ?_ hH ?_
        rotate_left
        · intro W hW; (try dsimp only at hW); go_simp <;> with_reducible rfl
        simp only [Act.put, List.setIfInBounds_toArray, List.set_cons_zero, List.set_cons_succ]
        refine hTake (i := 2) (v := ?_) rfl (by kernel_rfl) (by kernel_rfl) (by kernel_rfl) (by rfl) ?_ hH ?_
        rotate_left
        · intro W hW; (try dsimp only at hW); go_simp <;> with_reducible rfl
        simp only [Act.put, List.setIfInBounds_toArray, List.set_cons_zero, List.set_cons_succ]
        refine hTake (i := 3) (v := ?_) rfl (by kernel_rfl) (by kernel_rfl) (by kernel_rfl) (by rfl) ?_ hH ?_
        rotate_left
        · intro W hW; (try dsimp only at hW); go_simp <;> with_reducible rfl
        simp only [Act.put, List.setIfInBounds_toArray, List.set_cons_zero, List.set_cons_succ]
        refine hTake (i := 4) (v := ?_) rfl (by kernel_rfl) (by kernel_rfl) (by kernel_rfl) (by rfl) ?_ hH ?_
        rotate_left
        · intro W hW; (try dsimp only at hW); go_simp <;> with_reducible rfl
        simp only [Act.put, List.setIfInBounds_toArray, List.set_cons_zero, List.set_cons_succ]
        refine hTake (i := 7) (v := ?_) rfl (by kernel_rfl) (by kernel_rfl) (by kernel_rfl) (by rfl) ?_ hH ?_
        rotate_left
        · intro W hW; (try dsimp only at hW); go_simp <;> with_reducible rfl
        simp only [Act.put, List.setIfInBounds_toArray, List.set_cons_zero, List.set_cons_succ]
        refine hTake (i := 8) (v := ?_) rfl (by kernel_rfl) (by kernel_rfl) (by kernel_rfl) (by rfl) ?_ hH ?_
        rotate_left
        · intro W hW; (try dsimp only at hW); go_simp <;> with_reducible rfl
        simp only [Act.put, List.setIfInBounds_toArray, List.set_cons_zero, List.set_cons_succ]
        refine hTake (i := 11) (v := ?_) rfl (by kernel_rfl) (by kernel_rfl) (by kernel_rfl) (by rfl) ?_ hH ?_
        rotate_left
        · intro W hW; (try dsimp only at hW); go_simp <;> with_reducible rfl
        simp only [Act.put, List.setIfInBounds_toArray, List.set_cons_zero, List.set_cons_succ]
        refine hTake (i := 12) (v := ?_) rfl (by kernel_rfl) (by kernel_rfl) (by kernel_rfl) (by rfl) ?_ hH ?_
        rotate_left
        · intro W hW; (try dsimp only at hW); go_simp <;> with_reducible rfl
        simp only [Act.put, List.setIfInBounds_toArray, List.set_cons_zero, List.set_cons_succ]
        refine wpAnyH_ready (rs := [5]) (by kernel_rfl) (by simp) ?_
        refine AllReadyH.cons rfl (fun K hK => ?_) AllReadyH.nil
        go_simp
        refine hK.out _ _ ?_ (fun hH => ?_)
        · exact HS.out _ (hH.2.2.2.alloc (by simp; omega) _)
        clear hK K
        refine wpAnyH_ready (rs := [6]) (by kernel_rfl) (by simp) ?_
        refine AllReadyH.cons rfl (fun K hK => ?_) AllReadyH.nil
        refine step_appE (.tmp 22) (.tmp 27) (w.heap.size + 1) 3 (bts [kd, tx / 256, tx % 256]) 2 #[.int .u8 ky, .int .u8 fl] ⟨by omega, rfl, by omega⟩ rfl rfl ⟨_, _, rfl, ?_⟩ ⟨_, _, 5, rfl, ?_⟩ ?_ ?_ ?_
        · exact (own.alloc _).drew
        · exact heap_new' (by simp)
        · simp [Value.oneCell']
        · simp; omega
        intro g1 c1 w1 own1 gr1
        have bw1 := hH.2.2.2.trans gr1
        refine hK.out _ _ ?_ (fun hH => ?_)
        · exact HS.out _ bw1
        clear hK K
        simp only [Act.put, List.setIfInBounds_toArray, List.set_cons_zero, List.set_cons_succ]
        refine wpAnyH_ready (rs := [9]) (by kernel_rfl) (by simp) ?_
        refine AllReadyH.cons rfl (fun K hK => ?_) AllReadyH.nil
        go_simp
        have zw1 := bw1.size
        simp at zw1
        refine (two_any _ _ (by omega) (by omega)).mono ?_
        rintro e w' ⟨rfl, rfl⟩
        go_wp2_with fail
        refine hK.out _ _ ?_ (fun hH => ?_)
        · exact HS.out _ (hH.2.2.2.alloc (by omega) _)
        clear hK K
        refine wpAnyH_ready (rs := [10]) (by kernel_rfl) (by simp) ?_
        refine AllReadyH.cons rfl (fun K hK => ?_) AllReadyH.nil
        refine step_appE (.tmp 28) (.tmp 31) (w.heap.size + 1) 5 (bts [kd, tx / 256, tx % 256] ++ [.int .u8 ky, .int .u8 fl]) 2 #[.int .u8 (ol / 256), .int .u8 (ol % 256)] ⟨by omega, rfl, by omega⟩ rfl rfl ⟨_, _, rfl, ?_⟩ ⟨_, _, 5, rfl, ?_⟩ ?_ ?_ ?_
        · exact own1.alloc _
        · exact heap_new' (by simp)
        · simp [Value.oneCell']
        · simp; omega
        intro g2 c2 w2 own2 gr2
        have bw2 := hH.2.2.2.trans gr2
        refine hK.out _ _ ?_ (fun hH => ?_)
        · exact HS.out _ bw2
        clear hK K
        simp only [Act.put, List.setIfInBounds_toArray, List.set_cons_zero, List.set_cons_succ]
        refine wpAnyH_ready (rs := [13]) (by kernel_rfl) (by simp) ?_
        refine AllReadyH.cons rfl (fun K hK => ?_) AllReadyH.nil
        go_simp
        have zw2 := bw2.size
        simp at zw2
        refine (two_any _ _ (by omega) (by omega)).mono ?_
        rintro e w' ⟨rfl, rfl⟩
        go_wp2_with fail
        refine hK.out _ _ ?_ (fun hH => ?_)
        · exact HS.out _ (hH.2.2.2.alloc (by omega) _)
        clear hK K
        refine wpAnyH_ready (rs := [14]) (by kernel_rfl) (by simp) ?_
        refine AllReadyH.cons rfl (fun K hK => ?_) AllReadyH.nil
        refine step_appE (.tmp 32) (.tmp 35) (w.heap.size + 1) 7 (bts [kd, tx / 256, tx % 256] ++ [.int .u8 ky, .int .u8 fl] ++ [.int .u8 (ol / 256), .int .u8 (ol % 256)]) 2 #[.int .u8 (nw / 256), .int .u8 (nw % 256)] ⟨by omega, rfl, by omega⟩ rfl rfl ⟨_, _, rfl, ?_⟩ ⟨_, _, 5, rfl, ?_⟩ ?_ ?_ ?_
        · exact own2.alloc _
        · exact heap_new' (by simp)
        · simp [Value.oneCell']
        · simp; omega
        intro g3 c3 w3 own3 gr3
        have bw3 := hH.2.2.2.trans gr3
        refine hK.out _ _ ?_ (fun hH => ?_)
        · exact HS.out _ bw3
        clear hK K
        simp only [Act.put, List.setIfInBounds_toArray, List.set_cons_zero, List.set_cons_succ]
        refine hTake (i := 15) (v := ?_) rfl (by kernel_rfl) (by kernel_rfl) (by kernel_rfl) (by rfl) ?_ hH ?_
        rotate_left
        · intro W hW; (try dsimp only at hW); go_simp <;> with_reducible rfl
        simp only [Act.put, List.setIfInBounds_toArray, List.set_cons_zero, List.set_cons_succ]
        refine wpAnyH_done (by kernel_rfl) ?_ _
        refine NoPanic.normal ?_
        go_wp2_with fail
        go_meet
        exact ⟨g3, c3, rfl, by simpa [bts] using own3, bw3⟩
      case rest =>
      clear own hB q0 q3 q5 zb
      obtain ⟨g, c, rfl, own, hB⟩ := hcut
      have zb := hB.size
      simp at zb
      generalize hp : [kd, tx / 256, tx % 256, ky, fl, ol / 256, ol % 256, nw / 256, nw % 256] = p at *
      obtain ⟨s0, s1⟩ := Ch.sumB_bd p
      go_wp2_with fail
      refine (specSum_any _ 9 c p _ (by simpa using owns_cells own) hbts (by omega)).mono ?_
      rintro e w1 ⟨rfl, hw1⟩
      subst w1
      generalize hq : Ch.sumB p = q at *
      go_wp2_with fail
      refine (two_any _ _ s0 (by omega)).mono ?_
      rintro e w2 ⟨rfl, rfl⟩
      go_wp2_with (at_builtin; refine wpList_appE (.tmp 37) (.tmp 40) (w.heap.size + 1) 9 (bts p) 2 #[.int .u8 (q / 256), .int .u8 (q % 256)] ⟨by omega, rfl, by omega⟩ ?_ ?_ ?_ ?_ ?_ ?_ ?_; exact rfl; exact rfl; exact ⟨_, _, rfl, own.alloc _⟩; (refine ⟨_, _, 5, rfl, ?_⟩; exact heap_new' rfl); (simp [Value.oneCell']); (simp; omega); intro g1 c1 w1 own1 gr1)
      go_ret
      rw [HL.out, HE.out]
      refine ⟨g1, c1, rfl, ?_, ?_⟩
      · have := owns_base own1 (base' := w.heap.size) (by omega)
        simpa [Ch.withSum, bts, hq] using this
      · exact below_boxS (hB.trans (((Below.refl _ _).alloc zb _).trans gr1))
end Go.Proofs.YtoijjjckdggglaaGreat
