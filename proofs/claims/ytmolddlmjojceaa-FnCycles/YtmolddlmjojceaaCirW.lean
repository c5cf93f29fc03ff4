
/- circleFrom of the program. -/
import Derived.Test.YtmolddlmjojceaaCirM
import Derived.Test.YtmolddlmjojceaaRevW
import Derived.Test.YtmolddlmjojceaaJmp
import Derived.Test.YtmolddlmjojceaaEdO
namespace Go.Proofs.Ytmolddlmjojceaa
open Go.RowKit Go.Maps

theorem Try.zeroI (W : World) : (zeroValue 2).run Try.prog W = .ok (.int .i64 0) W := by kernel_rfl
theorem wpList_lookT {ops : Array Oper} {rest : List Oper} {o : Oper} {a : Act} {w : World} {Q : Exit → Act → World → Prop} (m x : Operand) (B N : Nat) (D : DataW Unit) (y : Int) (bb : Bool)
    (hop : o.op = Op.lookup 52 m x true) (hg : o.guard = none) (hm : a.eval m = .map (some B)) (hx : a.eval x = .int .i64 y) (hown : w.ownsMap Try.prog 2 (plainElem Try.prog 2) B N D) (hy : 1 ≤ y ∧ y ≤ 999)
    (hb : Maps.has D (kI y) = bb) (hK : ∀ c : Int, wpList Try.prog ops Q rest (a.put o.dst (.tuple #[.int .i64 c, .bool bb])) w) : wpList Try.prog ops Q (o :: rest) a w := by
  refine wpList_lookup_own_ok_int w hg m x 52 hop 2 2 .i64 Try.keyedI Try.underlying52 Try.underlying2 (Try.zeroI w) B N D hm hown _ (kI y) hx (kI_key hy) ?_
  intro c _ _
  rw [hb]
  exact hK c
theorem wpList_lookV {ops : Array Oper} {rest : List Oper} {o : Oper} {a : Act} {w : World} {Q : Exit → Act → World → Prop} (m x : Operand) (B N : Nat) (D : DataW Unit) (y v : Int)
    (hop : o.op = Op.lookup 52 m x false) (hg : o.guard = none) (hm : a.eval m = .map (some B)) (hx : a.eval x = .int .i64 y) (hown : w.ownsMap Try.prog 2 (plainElem Try.prog 2) B N D) (hy : 1 ≤ y ∧ y ≤ 999)
    (hat : ∀ z, D.atKey (kI y) z = nI v) (hK : wpList Try.prog ops Q rest (a.put o.dst (.int .i64 v)) w) : wpList Try.prog ops Q (o :: rest) a w := by
  refine wpList_lookup_own_int w hg m x 52 hop 2 2 .i64 Try.keyedI Try.underlying52 Try.underlying2 (Try.zeroI w) B N D hm hown _ (kI y) hx (kI_key hy) ?_
  intro c hc _
  rw [hat] at hc
  unfold nI at hc
  simp only [DataW.lit.injEq, Lit.int.injEq, true_and] at hc
  rw [← hc]
  exact hK

theorem Ch.scE_memF {es fs : List Ch.Hold} (hfs : ∀ e, e ∈ es ↔ e ∈ fs) (x u : Int) : u ∈ Ch.scE es x ↔ (x, u) ∈ Ch.prE fs := by
  rw [Ch.scE_mem]
  unfold Ch.prE
  simp only [List.mem_map, Prod.mk.injEq]
  constructor
  · rintro ⟨e, h1, h2⟩; exact ⟨e, (hfs e).1 h1, h2⟩
  · rintro ⟨e, h1, h2⟩; exact ⟨e, (hfs e).2 h1, h2⟩
theorem row_addr {w : World} {B k c : Nat} {a : Option Addr} {xs : List Value} (h : w.ownsRow B 2 1 (.slice a (k + 1) c) (k + 1) xs) : ∃ g, a = some ⟨g, 0, none⟩ := by
  rcases h.2 with ⟨_, h0⟩ | ⟨g, cap, cur, hv, _⟩
  · omega
  · simp only [Value.slice.injEq, true_and] at hv
    exact ⟨g, hv.1⟩
theorem rev_range (f : Nat → Int) (k : Nat) : ((List.range (k + 1)).map f).reverse = (List.range (k + 1)).map (fun i => f (k - i)) := by
  apply List.ext_getElem
  · simp
  · intro i h1 h2
    simp at h1 h2 ⊢

/-- What is the same all the way: the map, the list of those that were reached. -/
structure CirS (es : List Ch.Hold) (t : Int) (w W : World) (s : Ch.Rch) (p : Nat) (done us : List Int) (D : DataW Unit) (cnt : Nat) : Prop where
  mid : Ch.Mid (Ch.scE es) t s p done us
  own : W.ownsMap Try.prog 2 (plainElem Try.prog 2) (w.heap.size + 1) cnt D
  mp : MpC s D
  cn : cnt ≤ s.vs.length
  bel : Below w.heap.size w W
/-- At goOn. -/
def AtGo (a : Option Addr) (n cap : Nat) (t : Int) (es : List Ch.Hold) (w : World) (m : Nat) (A : Act) (W : World) : Prop :=
  ∃ (s : Ch.Rch) (p : Nat) (D : DataW Unit) (cnt g off cp N : Nat), m + p = 1000 ∧ CirS es t w W s p [] (Ch.scE es (s.v p)) D cnt ∧ Hid (N + p = s.vs.length) ∧ OwnQ W w.heap.size g off N cp (s.vs.drop p) ∧ g ≠ w.heap.size + 1 ∧
    ∃ u9 u10 u11 u12 u13 u14 u15 u16 u17 u18 u19 u20 u21 u22 u23 u24 u25 u26 u27 u28 u29 u30 u31 u32 u33 u34 u35 u36 u37 u38 u39 u40 u41 u42 u43 u44 u45 u46 u47 u48 u49 u50 u51 u52 u53 u54 u55 u56 u57 u58 u59 u60 u61 u62 u63 u64 u65 u66 u67 u68 : Value, A = { tmps := #[.slice a n cap, .int .i64 t, undef, undef, .slice none 0 0, .int .i64 (s.v p), .slice (some ⟨g, off, none⟩) N cp, .map (some (w.heap.size + 1)), .slice none 0 0, u9, u10, u11, u12, u13, u14, u15, u16, u17, u18, u19, u20, u21, u22, u23, u24, u25, u26, u27, u28, u29, u30, u31, u32, u33, u34, u35, u36, u37, u38, u39, u40, u41, u42, u43, u44, u45, u46, u47, u48, u49, u50, u51, u52, u53, u54, u55, u56, u57, u58, u59, u60, u61, u62, u63, u64, u65, u66, u67, u68], defers := [] }
/-- At comeBack. -/
def AtBack (a : Option Addr) (n cap : Nat) (t : Int) (es : List Ch.Hold) (w : World) (m : Nat) (A : Act) (W : World) : Prop :=
  ∃ (s : Ch.Rch) (p q k : Nat) (done us : List Int) (D : DataW Unit) (cnt : Nat) (a8 : Option Addr) (c8 : Nat) (v6 : Value), m = q ∧ CirS es t w W s p done us D cnt ∧ t ∈ Ch.scE es (s.v p) ∧ q = Ch.upBy s.par k p ∧ s.lev q + k = s.lev p ∧ q < s.vs.length ∧ q + k ≤ p ∧
    W.ownsRow w.heap.size 2 1 (.slice a8 k c8) k (icells ((List.range k).map (fun i => s.v (Ch.upBy s.par i p)))) ∧ (∀ g, (Value.slice a8 k c8).ownBlock = some g → g ≠ w.heap.size + 1) ∧
    ∃ u9 u10 u11 u12 u13 u14 u15 u16 u17 u18 u19 u20 u21 u22 u23 u24 u25 u26 u27 u28 u29 u30 u31 u32 u33 u34 u35 u36 u37 u38 u39 u40 u41 u42 u43 u44 u45 u46 u47 u48 u49 u50 u51 u52 u53 u54 u55 u56 u57 u58 u59 u60 u61 u62 u63 u64 u65 u66 u67 u68 : Value, A = { tmps := #[.slice a n cap, .int .i64 t, undef, undef, .slice none 0 0, .int .i64 (s.v q), v6, .map (some (w.heap.size + 1)), .slice a8 k c8, u9, u10, u11, u12, u13, u14, u15, u16, u17, u18, u19, u20, u21, u22, u23, u24, u25, u26, u27, u28, u29, u30, u31, u32, u33, u34, u35, u36, u37, u38, u39, u40, u41, u42, u43, u44, u45, u46, u47, u48, u49, u50, u51, u52, u53, u54, u55, u56, u57, u58, u59, u60, u61, u62, u63, u64, u65, u66, u67, u68], defers := [] }
def KC (a : Option Addr) (n cap : Nat) (t : Int) (es : List Ch.Hold) (w : World) (l m : Nat) (A : Act) (W : World) : Prop := (l = 1 ∧ AtGo a n cap t es w m A W) ∨ (l = 0 ∧ AtBack a n cap t es w m A W)

set_option linter.unusedSimpArgs false in
set_option maxRecDepth 20000 in
set_option maxHeartbeats 8000000 in
theorem circleFrom_any (a : Option Addr) (n cap : Nat) (es fs : List Ch.Hold) (hfs : ∀ e, e ∈ es ↔ e ∈ fs) (t : Int) (w : World) (h : CellsAt w a (n * 2) (hcells es)) (hn : n ≤ 400) (hcap : n ≤ cap) (hs : Ch.SortE es) (hr : RngE es) (hself : ∀ e ∈ es, e.t ≠ e.m) (ht : 1 ≤ t ∧ t ≤ 999) :
    Calls Try.prog 15 #[.slice a n cap, .int .i64 t] w fun e w' => ∃ a' m c', e = .returned (.slice a' m c') ∧ m ≤ 1048576 ∧ w'.ownsRow w.heap.size 2 1 (.slice a' m c') m (icells (Ch.cycM (Ch.prE fs) t)) ∧ Below w.heap.size w w' := by
  have HL := h.hlen
  have HF := hid hfs
  clear hfs
  have HR := hid hr
  have HST := hid hs
  have HSF := hid hself
  have EF := fun (x : Int) (W : World) (hW : Below w.heap.size w W) (hx : 1 ≤ x ∧ x ≤ 999) => edgesFrom_is a n cap es x w W h hW hn hcap hs hr hx
  have hmm := @run_makeMap Try.prog
  clear hs hr hself
  go_enter Try.func15, Try.ntmps15
  go_wp2
  refine wp_scope_labels2 (KC a n cap t es w) ?_ ?_
  rotate_left
  · intro HP
    clear EF h HL HR HST HSF
    have bA : Below w.heap.size w (w.alloc (.cells #[.int .i64 t] 2)) := (Below.refl _ _).alloc (Nat.le_refl _) _
    have bB : Below w.heap.size w ((w.alloc (.cells #[.int .i64 t] 2)).alloc (.map #[] 0)) := bA.alloc bA.size _
    have rA : (w.alloc (.cells #[.int .i64 t] 2)).ownsRow w.heap.size 2 1 (.slice (some ⟨w.heap.size, 0, none⟩) 1 1) 1 (icells [t]) := World.ownsRow_lit w #[.int .i64 t] 1 (by omega) (by unfold maxLen; omega) rfl
    obtain ⟨g0, cp0, hv0, hg0, qA⟩ := OwnQ.of_row rA (Nat.le_refl _) (by omega)
    simp only [Value.slice.injEq, Option.some.injEq, Addr.mk.injEq, and_true, true_and] at hv0
    obtain ⟨rfl, rfl⟩ := hv0
    have qB := qA.below ((Below.refl _ _).alloc (Nat.le_refl _) (.map #[] 0))
    have oB : ((w.alloc (.cells #[.int .i64 t] 2)).alloc (.map #[] 0)).ownsMap Try.prog 2 (plainElem Try.prog 2) (w.heap.size + 1) 0 (.map [] : DataW Unit) := by
      have := World.ownsMap_made (H := Unit) (w.alloc (.cells #[.int .i64 t] 2)) Try.prog 2 (plainElem Try.prog 2)
      simpa using this
    have SS : CirS es t w ((w.alloc (.cells #[.int .i64 t] 2)).alloc (.map #[] 0)) (Ch.Rch.one t) 0 [] (Ch.scE es ((Ch.Rch.one t).v 0)) (.map []) 0 := ⟨Ch.tree_one _ t, oB, MpC.one t, by omega, bB⟩
    go_wp2
    go_step3
    rename_i KK hKK
    refine hKK _ _ ?_
    refine HP.out 1 1000 _ _ ?_ _ ?_
    · exact .inl ⟨rfl, Ch.Rch.one t, 0, .map [], 0, w.heap.size, 0, 1, 1, rfl, SS, rfl, qB, by omega, _, _, _, _, _, _, _, _, _, _, _, _, _, _, _, _, _, _, _, _, _, _, _, _, _, _, _, _, _, _, _, _, _, _, _, _, _, _, _, _, _, _, _, _, _, _, _, _, _, _, _, _, _, _, _, _, _, _, _, _, rfl⟩
    · with_unfolding_all rfl
  rintro l m A W (⟨rfl, HG⟩ | ⟨rfl, HG⟩)
  · clear hmm
    refine ⟨_, rfl, ?_⟩
    obtain ⟨s, p, D, cnt, g, off, cp, N, hm, SS, HN, qq, hgne, u9, u10, u11, u12, u13, u14, u15, u16, u17, u18, u19, u20, u21, u22, u23, u24, u25, u26, u27, u28, u29, u30, u31, u32, u33, u34, u35, u36, u37, u38, u39, u40, u41, u42, u43, u44, u45, u46, u47, u48, u49, u50, u51, u52, u53, u54, u55, u56, u57, u58, u59, u60, u61, u62, u63, u64, u65, u66, u67, u68, rfl⟩ := HG
    have hcn := SS.cn
    have HB := hid SS.mid.bound
    have HVR := hid (fun i hi => SS.mid.rng HR.out ht (i := i) hi)
    have hpN := SS.mid.pN
    have hp1 : p ≤ 400 := by have := HB.out; have := HL.out; omega
    have hxr := HVR.out p hpN
    have bel := SS.bel
    obtain ⟨x, hxx⟩ : ∃ x, Hid (s.v p = x) := ⟨_, rfl⟩
    rw [hxx.out] at SS hxr
    go_wp2_with fail
    rw [hxx.out]
    refine (EF x _ bel hxr).mono ?_
    rintro e w1 ⟨a1, c1, L, rfl, HLL, hL4, hC, b1⟩
    have bel := bel.trans (b1.mono bel.size)
    have SS : CirS es t w w1 s p [] (Ch.scE es x) D cnt := ⟨SS.mid, SS.own.kept (gr_below b1 none) (by simp), SS.mp, SS.cn, bel⟩
    have qq := qq.below b1
    have HVR2 := HVR
    clear b1 bel EF HB HVR hcn hpN
    clear HVR2
    have hC0 := hid hC
    go_wp2_with fail
    go_loopw [6, 21] (fun r i wr => ∃ (j : Nat) (s : Ch.Rch) (D : DataW Unit) (cnt g off cp N : Nat), j ≤ L ∧ i = .int .i64 j ∧ r = .slice (some ⟨g, off, none⟩) N cp ∧ Hid (s.v p = x) ∧ CirS es t w wr s p ((Ch.scE es x).take j) ((Ch.scE es x).drop j) D cnt ∧ Hid (N + p = s.vs.length) ∧ OwnQ wr w.heap.size g off N cp (s.vs.drop p) ∧ g ≠ w.heap.size + 1) (fun _ i _ => L - (intOf i).toNat)
    case atStart => exact ⟨0, s, D, cnt, g, off, cp, N, Nat.zero_le _, rfl, rfl, hxx, by simpa using SS, HN, qq, hgne⟩
    case round =>
      clear SS HN qq hgne hxx
      obtain ⟨j, s, D, cnt, g, off, cp, N, hj, rfl, rfl, hxx, SS, HN, qq, hgne⟩ := hrel
      have hNb : N ≤ 401 := by have := SS.mid.bound; have := HL.out; have := HN.out; omega
      have hcn : cnt ≤ 401 := by have := SS.mid.bound; have := HL.out; have := SS.cn; omega
      have hpN := SS.mid.pN
      have hN0 : 0 < N := by have := HN.out; omega
      have HSS := hid SS
      have om := SS.own
      have lm := om.lt
      have bel := SS.bel
      have hlg := qq.lt
      by_cases hlt : j < L
      · have hjs : j < (Ch.scE es x).length := by have := HLL.out; omega
        have hfl : j < (Ch.filE es x).length := by rw [← Ch.scE_len]; exact hjs
        have HD : Hid ((Ch.scE es x).drop j = (Ch.scE es x).getD j 0 :: (Ch.scE es x).drop (j + 1)) := by show _ = _; rw [List.drop_eq_getElem_cons hjs]; simp [List.getD, hjs]
        have HTk : Hid ((Ch.scE es x).take (j + 1) = (Ch.scE es x).take j ++ [(Ch.scE es x).getD j 0]) := by show _ = _; rw [List.take_add_one]; simp [List.getD, hjs]
        have HUM : Hid ((Ch.scE es x).getD j 0 ∈ Ch.scE es x) := by show _ ∈ _; simp [List.getD, hjs]
        have HRI : Hid (((Ch.scE es x).drop j).Pairwise (· < ·)) := List.Pairwise.drop (Ch.scE_rise HST.out x)
        have hrm : 1 ≤ (Ch.scE es x).getD j 0 ∧ (Ch.scE es x).getD j 0 ≤ 999 := by
          have h1 := (Ch.scE_mem _ _).1 HUM.out
          obtain ⟨e, he, h3⟩ := List.mem_map.1 h1
          simp only [Prod.mk.injEq] at h3
          rw [← h3.2]
          exact (HR.out e he).2
        obtain ⟨b, ofs, rfl, q0, q1⟩ := (hC.below bel).hold hlt
        rw [Ch.fil_at hjs] at q1
        have hbl := lt_of_cell q0
        generalize ((Ch.filE es x).getD j Ch.Hold.zero).t = rt at *
        generalize (Ch.scE es x).getD j 0 = u at *
        have kE : Below wr.heap.size wr (wr.alloc (.cells #[.int .i64 rt, .int .i64 u] 33)) := (Below.refl _ _).alloc (Nat.le_refl _) _
        have omE := om.alloc (.cells #[.int .i64 rt, .int .i64 u] 33)
        have belE := bel.alloc bel.size (.cells #[.int .i64 rt, .int .i64 u] 33)
        have qE := qq.below kE
        clear SS qq om bel hC
        by_cases hut : u = t
        · subst u
          have htt : (t == t) = true := by simp
          go_wp2
          go_step3
          refine ⟨p, by omega, .inr ⟨rfl, s, p, p, 0, _, _, D, cnt, none, 0, _, rfl, ⟨HSS.out.mid, omE, HSS.out.mp, HSS.out.cn, belE⟩, ?_, rfl, rfl, hpN, by omega, World.ownsRow_nil _ _ _ _, fun g hg => by simp [Value.ownBlock] at hg, by rw [hxx.out]; exact ⟨_, _, _, _, _, _, _, _, _, _, _, _, _, _, _, _, _, _, _, _, _, _, _, _, _, _, _, _, _, _, _, _, _, _, _, _, _, _, _, _, _, _, _, _, _, _, _, _, _, _, _, _, _, _, _, _, _, _, _, _, rfl⟩⟩⟩
          rw [hxx.out]; exact HUM.out
        · have htt : (u == t) = false := by simpa using hut
          by_cases hkn : u ∈ s.vs
          · have hhas : Maps.has D (kI u) = true := by
              obtain ⟨i, hi, hv⟩ := Ch.Rch.mem.1 hkn
              by_cases h0 : i = 0
              · exfalso; subst h0; rw [HSS.out.mid.tree.v0] at hv; exact hut hv.symm
              · rw [← hv]; exact (HSS.out.mp.has i (by omega) hi).1
            have HM2 := hid (fun M => Ch.Mid.skip (sc := Ch.scE es) (t := t) (s := s) (p := p) (done := (Ch.scE es x).take j) (us := (Ch.scE es x).drop (j + 1)) (u := u) M hut hkn)
            clear hut hkn
            go_wp2_with (at_lookup; go_must (refine wpList_lookT _ _ (w.heap.size + 1) cnt D u true rfl rfl rfl rfl omE hrm hhas ?_; intro c0))
            go_roundw
            case rel => exact ⟨j + 1, s, D, cnt, g, off, cp, N, by omega, by go_num, rfl, hxx, ⟨by rw [HTk.out]; exact HM2.out (HD.out ▸ HSS.out.mid), omE, HSS.out.mp, HSS.out.cn, belE⟩, HN, qE, hgne⟩
            case measure => simp [intOf]; omega
          · have hhas : Maps.has D (kI u) = false := by
              cases hb : Maps.has D (kI u)
              · rfl
              · obtain ⟨i, _, hi, hv⟩ := HSS.out.mp.only u hb
                exact absurd (Ch.Rch.mem.2 ⟨i, hi, hv⟩) hkn
            have HM2 := hid (fun M => Ch.Mid.add (sc := Ch.scE es) (t := t) (s := s) (p := p) (done := (Ch.scE es x).take j) (us := (Ch.scE es x).drop (j + 1)) (u := u) M (HD.out ▸ HRI.out) hut hkn)
            have HMP2 := hid (MpC.add (p := p) (u := u) HSS.out.mp (omE.tidy Try.keyedI) HSS.out.mid.lp hpN (fun i h0 hi => by have := HSS.out.mid.low i h0 hi; omega) hkn)
            rw [hxx.out] at HMP2
            clear hut hkn
            have hukey := kI_key hrm
            have hxpl := plainI hxr
            have hcm : cnt < maxLen := by unfold maxLen; omega
            have hNm : N ≤ 1048576 := by omega
            have hwE := belE.size
            have hrow : (some (w.heap.size + 1) : Option Nat) ≠ some g := by simp; exact hgne.symm
            have HqF := hid (fun w5 gr5 => (qE.kept (w' := w5) gr5 hrow).below ((Below.refl _ _).alloc (Nat.le_refl _) (.cells #[.int .i64 u] 2)))
            have HeF : Hid (∀ w5, (wr.alloc (.cells #[.int .i64 rt, .int .i64 u] 33)).grownBy w5 (some (w.heap.size + 1)) → w5.cell? ⟨wr.heap.size, 1, none⟩ = some (.int .i64 u) ∧ wr.heap.size < w5.heap.size) := fun w5 gr5 => by
              refine ⟨cell_of_row _ _ _ _ _ _ (gr_heap gr5 (heap_alloc_new wr _) (by simp; omega)), ?_⟩
              have := gr5.size
              simp at this
              omega
            have HbF : Hid (∀ w5, (wr.alloc (.cells #[.int .i64 rt, .int .i64 u] 33)).grownBy w5 (some (w.heap.size + 1)) → w.heap.size ≤ (w5.alloc (.cells #[.int .i64 u] 2)).heap.size) := fun w5 gr5 => Nat.le_trans (Nat.le_trans hwE gr5.size) (by simp)
            go_wp2_with (first | (at_lookup; go_must (refine wpList_lookT _ _ (w.heap.size + 1) cnt D u false rfl rfl rfl rfl omE hrm hhas ?_; intro c0)) | (at_mapUpdate; go_must (refine wpList_mapUpdate_own _ rfl _ _ _ 52 rfl 2 2 Try.keyedI Try.underlying52 (plainElem Try.prog 2) (w.heap.size + 1) cnt D rfl omE hcm _ _ _ rfl rfl hukey _ [] hxpl ?_; intro w5 om5 gr5; have qF := HqF.out w5 gr5; have hbF := HbF.out w5 gr5; obtain ⟨e5, le5⟩ := HeF.out w5 gr5)) | (at_builtin; go_must (refine wpList_appQ (.tmp 42) (.tmp 45) w.heap.size g off N cp (s.vs.drop p) u ?_ ?_ ?_ ?_ qF hNm hbF ?_; exact rfl; exact rfl; exact rfl; exact ⟨_, _, _, rfl, heap_alloc_new _ _⟩; intro g6 off6 cp6 w6 q6 hg6 gr6)))
            go_roundw
            case rel =>
              have l5 := om5.lt
              have hdr : (s.add u p).vs.drop p = s.vs.drop p ++ [u] := by
                show (s.vs ++ [u]).drop p = _
                rw [List.drop_append_of_le_length (by omega)]
              have bF := (belE.grown gr5 hwE (fun k hk => by cases hk; omega))
              have bG := bF.alloc bF.size (.cells #[.int .i64 u] 2)
              have bH := bG.grown gr6 hbF (fun k hk => by cases hk; exact qF.lo)
              refine ⟨j + 1, s.add u p, _, cnt + 1, g6, off6, cp6, N + 1, by omega, by go_num, rfl, ?_, ⟨by rw [HTk.out]; exact HM2.out (HD.out ▸ HSS.out.mid), (om5.alloc _).kept gr6 hrow, HMP2.out, ?_, bH⟩, ?_, by rw [hdr]; exact q6, ?_⟩
              · show _ = _; rw [Ch.Rch.v_old hpN]; exact hxx.out
              · rw [Ch.Rch.len_add]; have := HSS.out.cn; omega
              · show _ = _; rw [Ch.Rch.len_add]; have := HN.out; omega
              · rcases hg6 with rfl | h6
                · exact hgne
                · simp at h6; omega
            case measure => simp [intOf]; omega
      · obtain rfl : j = L := by omega
        have HMD : Hid (Ch.Tree (Ch.scE es) t s.v s.par s.lev s.vs.length (p + 1)) := by
          have M := HSS.out.mid
          rw [show (Ch.scE es x).drop j = [] from List.drop_eq_nil_of_le (by have := HLL.out; omega)] at M
          exact M.done_
        have SL := sliceQ g off N cp hN0
        have qC := qq.cut hN0
        rw [List.drop_drop] at qC
        generalize cutQ off cp = o1 at *
        by_cases hN1 : N = 1
        · subst hN1
          have HNO := hid (Ch.circle_none (es := Ch.prE fs) (Ch.scE_memF HF.out) (hid HMD.out).out (by have := HN.out; omega) (by omega))
          clear SS qq qC om
          go_wp2
          rw [jumpK_ret]
          go_ret
          exact ⟨none, 0, 0, rfl, by omega, by rw [HNO.out]; exact World.ownsRow_nil _ _ _ _, bel⟩
        · have hp1N : p + 1 < s.vs.length := by have := HN.out; omega
          have hc0 := qC.at_ 0 (by omega)
          have hv0 : (s.vs.drop (p + 1)).getD 0 0 = s.v (p + 1) := by unfold Ch.Rch.v; simp [List.getD]
          rw [Nat.add_zero, hv0] at hc0
          have hlen1 : (0 : Int) < ((N - 1 : Nat) : Int) := by omega
          have hlen0 : 0 < N - 1 := by omega
          have HMS := hid (Ch.Mid.start HSS.out.mid.lp HSS.out.mid.ll hp1N HMD.out (fun i h0 hi => by have := HSS.out.mid.low i h0 hi; omega))
          clear SS qq
          go_wp2
          go_step3
          refine ⟨999 - p, by omega, .inl ⟨rfl, s, p + 1, D, cnt, g, o1, cp - 1, N - 1, by omega, ⟨HMS.out, om, HSS.out.mp, HSS.out.cn, bel⟩, ?_, qC, hgne, _, _, _, _, _, _, _, _, _, _, _, _, _, _, _, _, _, _, _, _, _, _, _, _, _, _, _, _, _, _, _, _, _, _, _, _, _, _, _, _, _, _, _, _, _, _, _, _, _, _, _, _, _, _, _, _, _, _, _, _, rfl⟩⟩
          show _ = _
          have := HN.out
          omega
  · clear hmm
    refine ⟨_, rfl, ?_⟩
    obtain ⟨s, p, q, k, done, us, D, cnt, a8, c8, v6, rfl, SS, htc, hq, hlev, hqN, hk, own8, hne8, u9, u10, u11, u12, u13, u14, u15, u16, u17, u18, u19, u20, u21, u22, u23, u24, u25, u26, u27, u28, u29, u30, u31, u32, u33, u34, u35, u36, u37, u38, u39, u40, u41, u42, u43, u44, u45, u46, u47, u48, u49, u50, u51, u52, u53, u54, u55, u56, u57, u58, u59, u60, u61, u62, u63, u64, u65, u66, u67, u68, rfl⟩ := HG
    have hyr := SS.mid.rng HR.out ht hqN
    have hpN := SS.mid.pN
    have HT := hid SS.mid.tree
    have bel := SS.bel
    have HMP := hid SS.mp
    have HSS := hid SS
    have om := SS.own
    have lm := om.lt
    have HQ := hid hq
    clear EF SS hq
    obtain ⟨y, hyy⟩ : ∃ y, Hid (s.v m = y) := ⟨_, rfl⟩
    rw [hyy.out] at hyr
    have hmb : m + k ≤ 400 := by have := HSS.out.mid.bound; have := HL.out; omega
    obtain ⟨i0, hi0, hz0, hz1, hz2⟩ := info_parts Try.info2
    have HZ : Hid ((List.range (k + 1)).map (fun i => s.v (Ch.upBy s.par i p)) = (List.range k).map (fun i => s.v (Ch.upBy s.par i p)) ++ [y]) := by
      show _ = _
      rw [List.range_succ, List.map_append, ← hyy.out, HQ.out]; rfl
    obtain ⟨zs8, hz8⟩ : ∃ z, Hid ((List.range k).map (fun i => s.v (Ch.upBy s.par i p)) = z) := ⟨_, rfl⟩
    rw [hz8.out] at own8 HZ
    have kN : Below W.heap.size W (W.alloc (.cells #[.int .i64 y] 2)) := (Below.refl _ _).alloc (Nat.le_refl _) _
    have oN := owns_below own8 kN
    have omN := om.alloc (.cells #[.int .i64 y] 2)
    have bN := bel.alloc bel.size (.cells #[.int .i64 y] 2)
    have hb3 := bN.size
    have hsum : k + 1 ≤ 4194304 := by omega
    rw [hyy.out]
    by_cases hyt : y = t
    · have htt : (y != t) = false := by simpa using hyt
      have hm0 : m = 0 := by
        have := HT.out.inj m 0 hqN (by omega) (by rw [hyy.out, HT.out.v0]; exact hyt)
        exact this
      have hkl : k = s.lev p := by
        have := HT.out.lev0
        subst hm0
        omega
      have HC := hid (Ch.circle_is (es := Ch.prE fs) (Ch.scE_memF HF.out) (fun e he => by
        obtain ⟨e', he', h3⟩ := List.mem_map.1 he
        rw [← h3]
        have := (HR.out e' ((HF.out e').2 he')).2.1
        simp only
        omega) (fun hc => by
        obtain ⟨e', he', h3⟩ := List.mem_map.1 ((Ch.scE_mem _ _).1 hc)
        simp only [Prod.mk.injEq] at h3
        exact HSF.out e' he' (by rw [h3.1, h3.2])) HT.out hpN htc)
      have HRV : Hid ((zs8 ++ [y]).reverse = Ch.cycM (Ch.prE fs) t) := by
        show _ = _
        rw [← HZ.out, rev_range, HC.out]
        unfold Ch.circle
        rw [hkl]
      clear hyt HC hkl hm0
      go_wp2_with (at_builtin; go_must (refine wpList_appX Try.underlying27 Try.underlying27 hi0 hz0 hz1 hz2 rfl (by omega) (by omega) (.tmp 56) (.tmp 58) ?_ ?_ w.heap.size (.slice a8 k c8) k (icells zs8) _ 1 1 (icells [y]) ?_ ?_ oN (new_one W y 2) (icells_one' [y]) hsum hb3 ?_; exact rfl; exact rfl; exact rfl; exact rfl; intro a9 c9 w9 own9 gr9 at9; obtain ⟨g9, hg9⟩ := row_addr own9; subst hg9))
      rw [← icells_append] at own9
      have b9 := bN.grown gr9 hb3 (fun g hg => (owns_lt own8 g hg).1)
      refine (rev_any w.heap.size g9 (k + 1) c9 (zs8 ++ [y]) _ own9 (by omega) b9.size).mono ?_
      rintro e w10 ⟨rfl, own10, b10⟩
      rw [HRV.out] at own10
      have b11 := b9.trans b10
      go_wp2
      rw [jumpK_ret]
      go_ret
      exact ⟨_, k + 1, c9, rfl, by omega, own10, b11⟩
    · have htt : (y != t) = true := by simpa using hyt
      have hm0 : 0 < m := by
        rcases Nat.eq_zero_or_pos m with h0 | h0
        · exfalso; subst h0; rw [HT.out.v0] at hyy; exact hyt hyy.out.symm
        · exact h0
      have hfr := HT.out.from_ m hm0 hqN
      have hat := (HMP.out.has m hm0 hqN).2
      rw [hyy.out] at hat
      clear hyt
      go_wp2_with (first | (at_builtin; go_must (refine wpList_appX Try.underlying27 Try.underlying27 hi0 hz0 hz1 hz2 rfl (by omega) (by omega) (.tmp 56) (.tmp 58) ?_ ?_ w.heap.size (.slice a8 k c8) k (icells zs8) _ 1 1 (icells [y]) ?_ ?_ oN (new_one W y 2) (icells_one' [y]) hsum hb3 ?_; exact rfl; exact rfl; exact rfl; exact rfl; intro a9 c9 w9 own9 gr9 at9; have om9 := omN.kept gr9 (fun e9 => hne8 _ e9.symm rfl))) | (at_lookup; go_must (refine wpList_lookV _ _ (w.heap.size + 1) cnt D y (s.v (s.par m)) rfl rfl rfl rfl om9 hyr hat ?_)))
      go_step3
      rw [← icells_append, ← HZ.out] at own9
      have b9 := bN.grown gr9 hb3 (fun g hg => (owns_lt own8 g hg).1)
      refine ⟨s.par m, hfr.1, .inr ⟨rfl, s, p, s.par m, k + 1, done, us, D, cnt, a9, c9, v6, rfl, ⟨HSS.out.mid, om9, HSS.out.mp, HSS.out.cn, b9⟩, htc, ?_, ?_, by omega, by omega, own9, fun g hg => ?_, _, _, _, _, _, _, _, _, _, _, _, _, _, _, _, _, _, _, _, _, _, _, _, _, _, _, _, _, _, _, _, _, _, _, _, _, _, _, _, _, _, _, _, _, _, _, _, _, _, _, _, _, _, _, _, _, _, _, _, _, rfl⟩⟩
      · rw [HQ.out]; rfl
      · have := hfr.2.2; omega
      · rcases at9 g hg with h9 | h9
        · exact hne8 g h9
        · simp at h9; omega
end Go.Proofs.Ytmolddlmjojceaa
