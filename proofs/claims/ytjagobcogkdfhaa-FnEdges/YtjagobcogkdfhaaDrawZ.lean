/- Several texts in one: RgtA, BntA, MixA, BntB, EdQ. -/
import Derived.Test.YtjagobcogkdfhaaKeepZ
import Derived.Test.YtjagobcogkdfhaaLkFr
import Derived.Test.YtjagobcogkdfhaaModelZ
import Derived.Test.YtjagobcogkdfhaaLkZ
import Derived.Test.YtjagobcogkdfhaaPackA
import Derived.Deep.RegionHeld
import Derived.Deep.DeepCutAuto


/- Locks that a draw makes: l6Right. -/
namespace Go.Proofs.Ytjagobcogkdfhaa
open Go.RowKit

theorem Ch.good_size {ls : List Ch.Lock} (h : Ch.locksFault ls = 0) : Ch.lkSize ls ≤ 5000 := by
  have h1 := Ch.good_few h
  have key : ∀ l : List Ch.Lock, (∀ x ∈ l, x.hs.length ≤ 20 ∧ x.qs.length ≤ 20) → Ch.lkSum l ≤ 40 * l.length := by
    intro l
    induction l with
    | nil => intro _; simp [Ch.lkSum]
    | cons x l ih =>
      intro hx
      have a := ih fun y hy => hx y (by simp [hy])
      have b := hx x (by simp)
      simp only [Ch.lkSum, List.map_cons, List.sum_cons, List.length_cons] at a ⊢
      omega
  have h2 := key ls fun x hx => by
    have := Ch.lock_good (Ch.good_mem h hx)
    exact ⟨this.1, this.2.1⟩
  unfold Ch.lkSize
  omega
theorem Ch.usedL_is (ls : List Ch.Lock) (t : Int) : (Ch.freeAll ls t).filter Ch.usedL = Ch.freed ls t := rfl
theorem Ch.good_atL {ls : List Ch.Lock} (h : Ch.locksFault ls = 0) : ∀ i, i < ls.length → (Ch.lkAt ls i).hs.length ≤ 20 ∧ (Ch.lkAt ls i).qs.length ≤ 20 ∧ Ch.namesH (Ch.lkAt ls i).hs = true ∧ Ch.namesH (Ch.lkAt ls i).qs = true := by
  intro i hi
  have := Ch.lock_good (Ch.good_mem h (Ch.lk_mem hi))
  exact ⟨this.1, this.2.1, this.2.2.1, this.2.2.2.1⟩
theorem Ch.waits_neg {ls : List Ch.Lock} (h : Ch.locksFault ls = 0) {t : Int} (hw : Ch.waitsL ls t < 0) : Ch.waitsB ls t = false := by
  rcases Ch.waits_case ls t with hn | ⟨x, hx, hxs⟩
  · exact (Ch.waits_none hn).1
  · have := Ch.waits_by (Ch.locks_good h).2 hx hxs
    have := Ch.good_res h hx
    omega

theorem ReadK.base {w : World} {B B' n : Nat} {v : Value} {ls : List Ch.Lock} {vs : List (Value × Value)} (h : ReadK w B v n ls vs) (hb : B' ≤ B) : ReadK w B' v n ls vs := by
  have hsub : ∀ {x : Value} {hs : List Ch.Hold}, SubOk w B x hs → SubOk w B' x hs := by
    rintro x hs ⟨a, n, c, e, h1, h2, h3, h4, h5⟩
    exact ⟨a, n, c, e, h1, h2, h3, fun g hg => ⟨Nat.le_trans hb (h4 g hg).1, (h4 g hg).2⟩, h5⟩
  exact ⟨h.len, h.vlen, owns_base h.row hb, fun i p hp => hsub (h.hs i p hp), fun i p hp => hsub (h.qs i p hp), h.apart⟩
theorem own_aBlk {w : World} {B n : Nat} {x : Value} {e : TypeId} {size : Nat} {xs : List Value} (h : w.ownsRow B e size x n xs) : aBlk x = x.ownBlock.toList := by
  rcases h.2 with ⟨rfl, _⟩ | ⟨g, cap, cur, rfl, _⟩
  · rfl
  · rfl
theorem OwnK.readK {w : World} {B n : Nat} {v : Value} {ls : List Ch.Lock} {vs : List (Value × Value)} (h : OwnK 129 w B v n ls vs) (hs : Ch.lkSize ls ≤ 1048579) : ReadK w B v n ls vs := by
  refine ⟨h.len, h.vlen, h.row, fun i p hp => (sub_own (h.hs i p hp) (Ch.lk_one hs i).1).1, fun i p hp => (sub_own (h.qs i p hp) (Ch.lk_one hs i).2).1, ?_⟩
  have e : vs.flatMap rblk = vs.flatMap blks := by
    have : ∀ p ∈ vs, rblk p = blks p := by
      intro p hp
      obtain ⟨i, hi, rfl⟩ := List.getElem_of_mem hp
      unfold rblk blks
      rw [own_aBlk (h.hs i _ (by simp [hi])), own_aBlk (h.qs i _ (by simp [hi]))]
    simp only [List.flatMap]
    congr 1
    exact List.map_congr_left this
  rw [e]
  exact h.apart
theorem ReadK.drew {w w' : World} {B s n : Nat} {v : Value} {ls : List Ch.Lock} {vs : List (Value × Value)} (h : ReadK w B v n ls vs) (hg : w.grownBy w' (some s)) (hs : s < B) : ReadK w' B v n ls vs :=
  h.other hg fun g e hm => by cases e; have := (h.bd hm).1; omega

/-- Each lock has at most k holds and waiters. -/
def Ch.Few (k : Nat) (ls : List Ch.Lock) : Prop := ∀ l ∈ ls, l.hs.length + l.qs.length ≤ k
theorem Ch.Few.ask {k : Nat} {ls : List Ch.Lock} (h : Ch.Few k ls) (t r m : Int) : Ch.Few (k + 1) (Ch.askLs ls t r m) := by
  intro x hx
  rcases Ch.askLs_mem hx with hx | hx
  · have := h x hx; omega
  · rw [hx]
    have h2 := Ch.ask_size1 (Ch.lkAt (Ch.withL r ls) (Ch.placeR r ls)) t m
    have h3 : (Ch.lkAt (Ch.withL r ls) (Ch.placeR r ls)).hs.length + (Ch.lkAt (Ch.withL r ls) (Ch.placeR r ls)).qs.length ≤ k := by
      rcases Ch.with_mem (Ch.lk_mem (Ch.with_len r ls).1) with hx | hx
      · exact h _ hx
      · rw [hx]; simp
    unfold Ch.askAt; omega
theorem Ch.Few.free {k : Nat} {ls : List Ch.Lock} (h : Ch.Few k ls) (t : Int) : Ch.Few k (Ch.freed ls t) := by
  intro x hx
  obtain ⟨⟨l, hl, rfl⟩, _⟩ := Ch.freed_mem.1 hx
  have h1 := h l hl
  have h2 := (Ch.admit_len (Ch.withoutH l.hs t) (Ch.withoutH l.qs t)).1
  have h3 := Ch.without_len l.hs t
  have h4 := Ch.without_len l.qs t
  unfold Ch.freeOne
  simp only
  omega
/-- Room for the rounds to come. -/
def Ch.FewN (N : Int) (ls : List Ch.Lock) : Prop := ∃ k : Nat, (k : Int) + N ≤ 16 ∧ Ch.Few k ls
theorem Ch.FewN.ask {N : Int} {ls : List Ch.Lock} (h : Ch.FewN N ls) (t r m : Int) : Ch.FewN (N - 1) (Ch.askLs ls t r m) := by
  obtain ⟨k, hk, hf⟩ := h
  exact ⟨k + 1, by omega, hf.ask t r m⟩
theorem Ch.FewN.free {N : Int} {ls : List Ch.Lock} (h : Ch.FewN N ls) (t : Int) : Ch.FewN (N - 1) (Ch.freed ls t) := by
  obtain ⟨k, hk, hf⟩ := h
  exact ⟨k, by omega, hf.free t⟩
theorem Ch.FewN.less {N : Int} {ls : List Ch.Lock} (h : Ch.FewN N ls) : Ch.FewN (N - 1) ls := by
  obtain ⟨k, hk, hf⟩ := h
  exact ⟨k, by omega, hf⟩
theorem Ch.FewN.done {ls : List Ch.Lock} (h : Ch.FewN 0 ls) : Ch.Few 16 ls := by
  obtain ⟨k, hk, hf⟩ := h
  exact fun l hl => Nat.le_trans (hf l hl) (by omega)

/-- What l6Right answers. -/
def RightD (s : Nat) (a : Option Addr) (n cap d : Nat) (zs : List Int) (w : World) (e : Ending) (w' : World) : Prop :=
  ∃ a' m c' ls vs d', e = .returned (.slice a' m c') ∧ ReadK w' w.heap.size (.slice a' m c') m ls vs ∧ Ch.locksFault ls = 0 ∧ d' ≤ d + 80 ∧ Src w' s a n cap d' zs ∧ w.grownBy w' (some s) ∧ Ch.Few 16 ls

set_option maxRecDepth 20000 in
set_option maxHeartbeats 8000000 in
theorem l6Right_any (N : Int) (s : Nat) (a : Option Addr) (n cap d : Nat) (zs : List Int) (w : World) (src : Src w s a n cap d zs) (hb : IsB zs) (hn : n ≤ 1048580) (hd : d ≤ 100) (hN0 : 0 ≤ N) (hN : N ≤ 16) :
    Calls Try.prog 147 #[.pointer (some ⟨s, 0, none⟩), .int .i64 N] w fun e w' => RightD s a n cap d zs w e w' := by
  have HB := hid hb
  have lS0 := src.lt
  obtain ⟨W0, hW0⟩ : ∃ W0, w.heap.size = W0 := ⟨_, rfl⟩
  have rE := ReadK.empty w w.heap.size (Nat.le_refl _)
  have sE := src.new (o := .cells #[] 129)
  have gE : w.grownBy (w.alloc (.cells #[] 129)) (some s) := gr_new ⟨rfl, rfl, rfl, Nat.le_refl _, fun _ _ _ => rfl⟩
  rw [hW0] at lS0
  have rE : ReadK (w.alloc (.cells #[] 129)) W0 (.slice (some ⟨W0, 0, none⟩) 0 0) 0 [] [] := by rw [hW0] at rE; exact rE
  clear hb
  go_enter Try.func147, Try.ntmps147
  go_wp2
  go_loopw [1, 5] (fun ni q wr => ∃ (N' : Int) (d' m : Nat) (a' : Option Addr) (c' : Nat) (ls : List Ch.Lock) (vs : List (Value × Value)), ni = .int .i64 N' ∧ q = .slice a' m c' ∧ 0 ≤ N' ∧ (d' : Int) + 5 * N' ≤ (d : Int) + 80 ∧ ReadK wr W0 (.slice a' m c') m ls vs ∧ Hid (Ch.locksFault ls = 0) ∧ Src wr s a n cap d' zs ∧ w.grownBy wr (some s) ∧ Hid (Ch.FewN N' ls)) (fun ni _ _ => (intOf ni).toNat)
  case atStart => exact ⟨N, d, 0, _, 0, [], [], rfl, rfl, hN0, by omega, rE, rfl, sE, gE, hid ⟨0, by omega, fun l hl => by simp at hl⟩⟩
  case round =>
    clear rE sE gE src hN0 hN
    obtain ⟨N', d', m, a', c', ls, vs, rfl, rfl, hN0, hd', rk, HG, src, gr, HF⟩ := hrel
    by_cases hlt : 0 < N'
    · have hdl : d' ≤ 180 := by omega
      go_wp2_with fail
      refine (next_any 5 s a n cap d' zs _ src HB.out hn (by omega) (by decide) (by decide)).mono ?_
      rintro e u1 ⟨⟨x1, x10, x15, rfl⟩, s1, g1⟩
      replace rk := rk.drew g1 lS0
      replace gr := gr_trans gr g1
      clear g1 src
      go_wp2_with fail
      refine (chance_any 8 s a n cap (d' + 1) zs _ s1 HB.out hn (by omega) (by decide) (by decide)).mono ?_
      rintro e u2 ⟨⟨b, rfl⟩, s2, g2⟩
      replace rk := rk.drew g2 lS0
      replace gr := gr_trans gr g2
      have hk := rk.lkIn.at
      have HL := hk.len
      have HSZ := hid (Ch.good_size HG.out)
      have hm101 : m ≤ 101 := by have := Ch.good_few HG.out; have := HL.out; omega
      clear g2 s1
      obtain ⟨T, hT, hT0, hT5⟩ : ∃ T : Int, T = 1 + x1 ∧ 1 ≤ T ∧ T ≤ 5 := ⟨1 + x1, rfl, by omega, by omega⟩
      rw [← hT]
      have HI : Hid (Ch.inB T 1 999 = true) := by show _ = _; simp [Ch.inB]; omega
      clear hT x10 x15
      cases b
      · have IW := fun W hW => l6Waits_any a' m c' T ls W hW (by have := HSZ.out; omega)
        by_cases hw : Ch.waitsL ls T < 0
        · have HWN := hid (Ch.waits_neg HG.out hw)
          generalize Ch.waitsL ls T = wv at *
          have hge : ¬ 0 ≤ wv := by omega
          go_wp2_with fail
          refine (IW _ hk).mono ?_
          rintro e u3 ⟨rfl, hu3⟩
          obtain rfl := hu3.symm
          clear IW
          go_wp2_with fail
          refine (next_any 4 s a n cap (d' + 1 + 1) zs _ s2 HB.out hn (by omega) (by decide) (by decide)).mono ?_
          rintro e u4 ⟨⟨x4, x40, x44, rfl⟩, s4, g4⟩
          replace rk := rk.drew g4 lS0
          replace gr := gr_trans gr g4
          clear g4 s2 hk
          go_wp2_with fail
          refine (next_any 5 s a n cap (d' + 1 + 1 + 1) zs _ s4 HB.out hn (by omega) (by decide) (by decide)).mono ?_
          rintro e u5 ⟨⟨x5, x50, x55, rfl⟩, s5, g5⟩
          replace rk := rk.drew g5 lS0
          replace gr := gr_trans gr g5
          have hk := rk.lkIn.at
          clear g5 s4
          have HR : Hid (Ch.inB x4 0 100 = true) := by show _ = _; simp [Ch.inB]; omega
          have HM : Hid (Ch.inB (1 + x5) 1 5 = true) := by show _ = _; simp [Ch.inB]; omega
          have HX : Hid (Ch.askX ls T x4 (1 + x5) = if (Ch.askAt ls T x4 (1 + x5)).2.1 != 0 then ((Ch.askAt ls T x4 (1 + x5)).2.1, false, []) else (0, (Ch.askAt ls T x4 (1 + x5)).1, Ch.askLs ls T x4 (1 + x5))) := rfl
          have HFA := hid (HF.out.ask T x4 (1 + x5))
          have HGA := hid (fun h0 => Ch.ask_good HG.out HI.out HR.out HM.out HWN.out h0)
          go_wp2_with fail
          refine (l6Ask_any a' m c' T x4 (1 + x5) ls _ hk (by have := HSZ.out; omega) HG.out HM.out).mono ?_
          rintro e u6 ⟨a2, m2, c2, rfl, own6, b6⟩
          have s6 := s5.below b6 s5.lt
          have rk6 := rk.below b6
          have gr6 := gr_on gr (b6.mono gr.size)
          have hu5 := gr.size
          clear s5 gr hk
          by_cases h0 : (Ch.askAt ls T x4 (1 + x5)).2.1 = 0
          · have hx : Ch.askX ls T x4 (1 + x5) = (0, (Ch.askAt ls T x4 (1 + x5)).1, Ch.askLs ls T x4 (1 + x5)) := by rw [HX.out, h0]; rfl
            rw [hx] at own6 ⊢
            simp only at own6 ⊢
            replace HGA := hid (HGA.out h0)
            clear HX h0 hx
            generalize Ch.askLs ls T x4 (1 + x5) = ls6 at *
            generalize (Ch.askAt ls T x4 (1 + x5)).1 = gb at *
            obtain ⟨vs6, own6⟩ := own6
            have HS6 := hid (Ch.good_size HGA.out)
            have rk7 := (own6.readK (by have := HS6.out; omega)).base (B' := W0) (by omega)
            go_wp2
            go_roundw
            case rel => exact ⟨N' - 1, d' + 1 + 1 + 1 + 1, m2, a2, c2, ls6, vs6, by go_num, rfl, by omega, by omega, rk7.below ((Below.refl _ _).alloc (Nat.le_refl _) _), HGA.out, s6.new, gr_new gr6, HFA.out⟩
            case measure => simp [intOf]; omega
          · have hx : Ch.askX ls T x4 (1 + x5) = ((Ch.askAt ls T x4 (1 + x5)).2.1, false, []) := by rw [HX.out, if_pos (by simpa using h0)]
            rw [hx] at own6 ⊢
            simp only at own6 ⊢
            clear HX hx HGA own6
            generalize (Ch.askAt ls T x4 (1 + x5)).2.1 = gc at *
            have hgc : (gc == 0) = false := by simpa using h0
            go_wp2
            go_roundw
            case rel => exact ⟨N' - 1, d' + 1 + 1 + 1 + 1, m, a', c', ls, vs, by go_num, rfl, by omega, by omega, rk6.below ((Below.refl _ _).alloc (Nat.le_refl _) _), HG.out, s6.new, gr_new gr6, HF.out.less⟩
            case measure => simp [intOf]; omega
        · generalize Ch.waitsL ls T = wv at *
          have hge : 0 ≤ wv := by omega
          go_wp2_with fail
          refine (IW _ hk).mono ?_
          rintro e u3 ⟨rfl, hu3⟩
          obtain rfl := hu3.symm
          go_wp2
          go_roundw
          case rel => exact ⟨N' - 1, d' + 1 + 1, m, a', c', ls, vs, by go_num, rfl, by omega, by omega, rk, HG.out, s2, gr, HF.out.less⟩
          case measure => simp [intOf]; omega
      · have HGF := hid (Ch.free_good HG.out T)
        have HGT := hid (Ch.good_atL HG.out)
        have hu2 := gr.size
        go_wp2_with fail
        refine (l6FreeK_any a' m c' T ls _ hk hm101 (fun i hi => HGT.out i (by have := HL.out; omega))).mono ?_
        rintro e u3 ⟨a1, m1, c1, a2, m2, c2, rfl, _, _, ⟨vs3, rk3⟩, b3⟩
        rw [Ch.usedL_is] at rk3
        have s3 := s2.below b3 s2.lt
        have gr3 := gr_on gr (b3.mono gr.size)
        have rk4 := rk3.base (B' := W0) (by omega)
        go_wp2
        go_roundw
        case rel => exact ⟨N' - 1, d' + 1 + 1, m2, a2, c2, _, vs3, by go_num, rfl, by omega, by omega, rk4, HGF.out, s3, gr3, HF.out.free T⟩
        case measure => simp [intOf]; omega
    · obtain rfl : N' = 0 := by omega
      go_wp2
      go_ret
      exact ⟨a', m, c', ls, vs, d', rfl, hW0 ▸ rk, HG.out, by omega, src, gr, HF.out.done⟩
end Go.Proofs.Ytjagobcogkdfhaa


/- Locks that a draw bends: memory. -/
namespace Go.Proofs.Ytjagobcogkdfhaa
open Go.RowKit

def SubR (w : World) (B : Nat) (x : Value) (hs : List Ch.Hold) : Prop := ∃ a n c, x = .slice a n c ∧ CellsAt w a (n * 2) (hcells hs) ∧ n ≤ c ∧ n ≤ 1048579 ∧ ∀ g ∈ aBlk x, B ≤ g ∧ g < w.heap.size
theorem SubOk.r {w : World} {B : Nat} {x : Value} {hs : List Ch.Hold} (h : SubOk w B x hs) : SubR w B x hs := by
  obtain ⟨a, n, c, e, h1, h2, h3, h4, _⟩ := h
  exact ⟨a, n, c, e, h1, h2, h3, h4⟩
theorem subR_grown {w w' : World} {B : Nat} {x : Value} {hs : List Ch.Hold} {row : Option Nat} (h : SubR w B x hs) (gr : w.grownBy w' row) (hr : ∀ g, row = some g → g ∉ aBlk x) : SubR w' B x hs := by
  obtain ⟨a, n, c, rfl, hc, h1, h2, h3⟩ := h
  refine ⟨a, n, c, rfl, ?_, h1, h2, fun g hg => ⟨(h3 g hg).1, Nat.lt_of_lt_of_le (h3 g hg).2 gr.size⟩⟩
  rcases Nat.eq_zero_or_pos n with h0 | h0
  · subst h0; exact ⟨hc.1, fun h => absurd h (by simp)⟩
  · exact cells_grown hc gr fun b off ha e => hr b e (by subst ha; simp [aBlk])
theorem subR_nil (w : World) (B : Nat) : SubR w B (.slice none 0 0) [] :=
  ⟨none, 0, 0, rfl, ⟨rfl, fun h => absurd h (by simp)⟩, Nat.le_refl _, by omega, fun g hg => by simp [aBlk] at hg⟩
theorem lkIn_parts {w : World} {B n cap o : Nat} {ls : List Ch.Lock} {vs : List (Value × Value)} (hlen : ls.length = n) (hvlen : vs.length = n) (hrow : w.ownsRow B 129 3 (.slice (some ⟨o, 0, none⟩) n cap) n (lcells ls vs))
    (hhs : ∀ i p, vs[i]? = some p → SubR w B p.1 (Ch.lkAt ls i).hs) (hqs : ∀ i p, vs[i]? = some p → SubR w B p.2 (Ch.lkAt ls i).qs) : LkIn B w.heap.size w (some ⟨o, 0, none⟩) n ls := by
  refine ⟨hlen, fun h0 => ?_⟩
  have hc := owns_cells hrow
  obtain ⟨b, off, ha, hcc⟩ := hc.2 (by omega)
  simp only [Option.some.injEq, Addr.mk.injEq, and_true] at ha
  obtain ⟨rfl, rfl⟩ := ha
  have hob := owns_lt hrow o rfl
  refine ⟨o, 0, rfl, hob.1, hob.2, fun i hi => ?_⟩
  obtain ⟨p, hp⟩ : ∃ p, vs[i]? = some p := ⟨vs[i]'(by rw [hvlen]; exact hi), by simp⟩
  have hl := lcells_at (by rw [hlen, hvlen]) hp (ls := ls)
  obtain ⟨ah, nh, ch, e1, k1, k2, k3, k4⟩ := hhs i p hp
  obtain ⟨aq, nq, cq, e2, j1, j2, j3, j4⟩ := hqs i p hp
  rw [e1] at hl k4
  rw [e2] at hl j4
  refine ⟨ah, nh, ch, aq, nq, cq, ⟨(hcc _ (by omega)).trans hl.1, ?_, ?_, k1, j1, by omega, by omega, k2, j2⟩, fun g o _ e => k4 g (by subst e; simp [aBlk]), fun g o _ e => j4 g (by subst e; simp [aBlk])⟩
  · rw [Nat.add_assoc]; exact (hcc _ (by omega)).trans hl.2.1
  · rw [Nat.add_assoc]; exact (hcc _ (by omega)).trans hl.2.2
theorem LkIn.drew {lo hi s : Nat} {w w' : World} {a : Option Addr} {n : Nat} {ls : List Ch.Lock} (h : LkIn lo hi w a n ls) (gr : w.grownBy w' (some s)) (hs : s < lo) : LkIn lo hi w' a n ls := by
  refine ⟨h.1, fun h0 => ?_⟩
  obtain ⟨b, off, ha, h1, h2, hi'⟩ := h.2 h0
  refine ⟨b, off, ha, h1, h2, fun i hlt => ?_⟩
  obtain ⟨ah, nh, ch, aq, nq, cq, ⟨c0, c1, c2, h3, h4, h5⟩, hA, hQ⟩ := hi' i hlt
  have hne : (some s : Option Nat) ≠ some b := fun e => by cases e; omega
  have sub : ∀ {x : Option Addr} {m : Nat} {hs : List Ch.Hold}, CellsAt w x (m * 2) (hcells hs) → (∀ g o, 0 < m → x = some ⟨g, o, none⟩ → lo ≤ g ∧ g < hi) → CellsAt w' x (m * 2) (hcells hs) := by
    intro x m hs hc hb
    rcases Nat.eq_zero_or_pos m with h0 | h0
    · subst h0; exact ⟨hc.1, fun h => absurd h (by simp)⟩
    · exact cells_grown hc gr fun b off ha e => by cases e; have := (hb s off h0 ha).1; omega
  exact ⟨ah, nh, ch, aq, nq, cq, ⟨grown_cell gr c0 hne, grown_cell gr c1 hne, grown_cell gr c2 hne, sub h3 hA, sub h4 hQ, h5⟩, hA, hQ⟩

theorem grown_setCells (g : Nat) : ∀ (vs : List Value) (o : Nat) (w : World), w.grownBy (w.setCells g o vs) (some g)
  | [], _, _ => ⟨rfl, rfl, rfl, Nat.le_refl _, fun _ _ _ => rfl⟩
  | v :: vs, o, w => gr_trans (gr_set (v := v)) (grown_setCells g vs (o + 1) (w.setCell ⟨g, o, none⟩ v))

/-- One more behind a list that is read. -/
theorem sub_app {w : World} {B : Nat} {x : Value} {hs : List Ch.Hold} (h : SubOk w B x hs) (hB : B ≤ w.heap.size) (hl : hs.length ≤ 100) (t m : Int) {ga : Nat} (hc : CellsAt w (some ⟨ga, 0, none⟩) (1 * 2) (hcells [⟨t, m⟩])) (ty : TypeId) :
    ∃ x' w', (Builtin.append_ #[127, 127] ty #[x, .slice (some ⟨ga, 0, none⟩) 1 1]).run Try.prog w = .ok x' w' ∧ SubR w' B x' (hs ++ [⟨t, m⟩]) ∧ (∃ row, w.grownBy w' row ∧ ∀ g, row = some g → g ∈ aBlk x) ∧ ∀ g ∈ aBlk x', g ∈ aBlk x ∨ w.heap.size ≤ g := by
  obtain ⟨i0, hi0, hz0, hz1, hz2⟩ := info_parts Try.info131
  have hnews : ∀ j u, (hcells [⟨t, m⟩])[j]? = some u → w.cell? ((⟨ga, 0, none⟩ : Addr).add j) = some u := by
    intro j u hj
    obtain ⟨b, off, ha, hcc⟩ := hc.2 (by decide)
    simp only [Option.some.injEq, Addr.mk.injEq, and_true] at ha
    obtain ⟨rfl, rfl⟩ := ha
    have hjl : j < 2 := by
      have := (List.getElem?_eq_some_iff.1 hj).1
      rw [hcells_len] at this; simpa using this
    rw [Addr.add_lit]
    rw [hcc j (by omega)]; exact hj
  obtain ⟨a, n, c, rfl, hcs, h1, h2, h3, h4⟩ := h
  have hn := hcs.hlen.out
  have hown : ∀ {w' : World} {a' : Option Addr} {c' : Nat} {B' : Nat}, w'.ownsRow B' 131 2 (.slice a' (n + 1) c') (n + 1) (hcells hs ++ hcells [⟨t, m⟩]) → B ≤ B' → SubR w' B (.slice a' (n + 1) c') (hs ++ [⟨t, m⟩]) := by
    intro w' a' c' B' ho hBB
    rw [← hcells_append] at ho
    refine ⟨a', n + 1, c', rfl, owns_cells ho, owns_cap ho, by omega, fun g hg => ?_⟩
    rw [own_aBlk ho] at hg
    have := owns_lt ho g (by simpa using hg)
    omega
  rcases h4 with ⟨n', e⟩ | ⟨g, o, n', c', e, hcc⟩
  · simp only [Value.slice.injEq] at e
    obtain ⟨rfl, _, rfl⟩ := e
    obtain rfl : n = 0 := by omega
    obtain rfl : hs = [] := List.length_eq_zero_iff.1 hn.symm
    obtain ⟨a', c', w', hr, ho, hg, hat⟩ := run_appX (ty := ty) (c := 1) Try.underlying127 Try.underlying127 hi0 hz0 hz1 hz2 rfl (by omega) (by omega) (World.ownsRow_nil w B 131 2) hc (hcells_one' _) (by omega) hB
    refine ⟨_, w', hr, hown ho (Nat.le_refl _), ⟨none, hg, fun g hg => by cases hg⟩, fun g hg => ?_⟩
    rw [own_aBlk ho] at hg
    rcases hat g (by simpa using hg) with h | h
    · simp [Value.ownBlock] at h
    · exact .inr h
  · simp only [Value.slice.injEq] at e
    obtain ⟨rfl, rfl, rfl⟩ := e
    by_cases hroom : n + 1 ≤ c
    · have hr := run_append_room_cells (P := Try.prog) w 127 ty 131 i0 Try.underlying127 hi0 g o n c ⟨ga, 0, none⟩ 1 1 (hcells [⟨t, m⟩]) (by rw [hz1]; rfl) hnews (hcells_one' _) hroom (fun j hj => by
        rw [hz1, Nat.add_assoc]; rw [hcells_len] at hj; exact (hcc _ (by simp at hj; omega)).1) (fun j hj => by
        rw [hz1, Nat.add_assoc]; rw [hcells_len] at hj; exact (hcc _ (by simp at hj; omega)).2)
      rw [hz1] at hr
      have hgr := grown_setCells g (hcells [⟨t, m⟩]) (o + n * 2) w
      refine ⟨_, _, hr, ⟨_, _, _, rfl, ?_, hroom, by omega, fun g' hg' => ?_⟩, ⟨some g, hgr, fun g' e => by cases e; simp [aBlk]⟩, fun g' hg' => .inl hg'⟩
      · refine ⟨by rw [hcells_len]; simp; omega, fun _ => ⟨g, o, rfl, fun i hi => ?_⟩⟩
        rw [hcells_append]
        by_cases hin : i < n * 2
        · rw [List.getElem?_append_left (by rw [hcells_len]; omega)]
          rw [World.cell?_setCells_out g _ _ _ _ (fun _ _ => .inl (by simp; omega))]
          obtain ⟨b, off, ha, hc0⟩ := hcs.2 (by omega)
          simp only [Option.some.injEq, Addr.mk.injEq, and_true] at ha
          obtain ⟨rfl, rfl⟩ := ha
          exact hc0 i hin
        · rw [List.getElem?_append_right (by rw [hcells_len]; omega), hcells_len]
          have hj : i - n * 2 < (hcells [⟨t, m⟩]).length := by rw [hcells_len]; simp; omega
          have := World.cell?_setCells_in g (hcells [⟨t, m⟩]) (o + n * 2) w (fun j hj => by rw [Nat.add_assoc]; rw [hcells_len] at hj; exact (hcc _ (by simp at hj; omega)).1) (i - n * 2) hj
          rw [show o + n * 2 + (i - n * 2) = o + i by omega] at this
          rw [this, ← hn, List.getElem?_eq_getElem hj]
      · have := h3 g' hg'
        exact ⟨this.1, Nat.lt_of_lt_of_le this.2 hgr.size⟩
    · obtain ⟨v', w', hr, ho, hg⟩ := run_append_arg_grows (P := Try.prog) w 127 ty 131 i0 _ 2 16 Try.underlying127 hi0 hz0 hz1 hz2 rfl (by decide) ⟨g, o, none⟩ n c (hcells hs) (by rw [hcells_len]; omega) (fun j u hj => by
        have hjl : j < n * 2 := by have := (List.getElem?_eq_some_iff.1 hj).1; rw [hcells_len] at this; omega
        obtain ⟨b, off, ha, hc0⟩ := hcs.2 (by omega)
        simp only [Option.some.injEq, Addr.mk.injEq, and_true] at ha
        obtain ⟨rfl, rfl⟩ := ha
        rw [Addr.add_lit]
        rw [hc0 j hjl]; exact hj) ⟨ga, 0, none⟩ 1 1 (hcells [⟨t, m⟩]) rfl hnews (by omega) (by unfold maxLen; omega) (by omega)
      obtain ⟨a', c', rfl⟩ := owns_shape ho
      refine ⟨_, w', hr, hown ho hB, ⟨none, hg, fun g hg => by cases hg⟩, fun g' hg' => ?_⟩
      rw [own_aBlk ho] at hg'
      exact .inr (owns_lt ho g' (by simpa using hg')).1

theorem cells_r {ls : List Ch.Lock} {vs : List (Value × Value)} {k : Nat} {p : Value × Value} (h : ls.length = vs.length) (hp : vs[k]? = some p) (hk : k < ls.length) (r : Int) :
    (lcells ls vs).set (k * 3 + 0) (.int .i64 r) = lcells (ls.set k ⟨r, (Ch.lkAt ls k).hs, (Ch.lkAt ls k).qs⟩) (vs.set k p) := by
  obtain ⟨_, h1, h2⟩ := lcells_at h hp
  rw [← lcells_set k ⟨r, (Ch.lkAt ls k).hs, (Ch.lkAt ls k).qs⟩ p.1 p.2 h hk, Nat.add_zero]
  rw [set_same (l := (lcells ls vs).set (k * 3) _) (k := k * 3 + 1) (by rw [List.getElem?_set_ne (by omega)]; exact h1)]
  rw [set_same (l := (lcells ls vs).set (k * 3) _) (k := k * 3 + 2) (by rw [List.getElem?_set_ne (by omega)]; exact h2)]
theorem cells_h {ls : List Ch.Lock} {vs : List (Value × Value)} {k : Nat} {p : Value × Value} (h : ls.length = vs.length) (hp : vs[k]? = some p) (hk : k < ls.length) (x : Value) (hs : List Ch.Hold) :
    (lcells ls vs).set (k * 3 + 1) x = lcells (ls.set k ⟨(Ch.lkAt ls k).r, hs, (Ch.lkAt ls k).qs⟩) (vs.set k (x, p.2)) := by
  obtain ⟨h0, _, h2⟩ := lcells_at h hp
  rw [← lcells_set k ⟨(Ch.lkAt ls k).r, hs, (Ch.lkAt ls k).qs⟩ x p.2 h hk]
  rw [set_same h0]
  rw [set_same (l := (lcells ls vs).set (k * 3 + 1) _) (k := k * 3 + 2) (by rw [List.getElem?_set_ne (by omega)]; exact h2)]
theorem cells_q {ls : List Ch.Lock} {vs : List (Value × Value)} {k : Nat} {p : Value × Value} (h : ls.length = vs.length) (hp : vs[k]? = some p) (hk : k < ls.length) (y : Value) (qs : List Ch.Hold) :
    (lcells ls vs).set (k * 3 + 2) y = lcells (ls.set k ⟨(Ch.lkAt ls k).r, (Ch.lkAt ls k).hs, qs⟩) (vs.set k (p.1, y)) := by
  obtain ⟨h0, h1, _⟩ := lcells_at h hp
  rw [← lcells_set k ⟨(Ch.lkAt ls k).r, (Ch.lkAt ls k).hs, qs⟩ p.1 y h hk]
  rw [set_same h0, set_same h1]

theorem rblk_apart {vs : List (Value × Value)} (h : (vs.flatMap rblk).Nodup) {i k : Nat} {p q : Value × Value} (hik : i ≠ k) (hp : vs[i]? = some p) (hq : vs[k]? = some q) {g : Nat} (hg : g ∈ rblk p) : g ∉ rblk q := by
  intro hg2
  have h2 := (List.pairwise_flatMap.1 h).2
  have hi := (List.getElem?_eq_some_iff.1 hp)
  have hk := (List.getElem?_eq_some_iff.1 hq)
  obtain ⟨hi1, rfl⟩ := hi
  obtain ⟨hk1, rfl⟩ := hk
  have hpw := List.pairwise_iff_getElem.1 h2
  rcases Nat.lt_or_gt_of_ne hik with h | h
  · exact hpw i k hi1 hk1 h g hg g hg2 rfl
  · exact hpw k i hk1 hi1 h g hg2 g hg rfl
theorem rblk_two {vs : List (Value × Value)} (h : (vs.flatMap rblk).Nodup) {k : Nat} {p : Value × Value} (hp : vs[k]? = some p) {g : Nat} (hg : g ∈ aBlk p.1) : g ∉ aBlk p.2 := by
  intro hg2
  have h1 := (List.pairwise_flatMap.1 h).1 p (List.mem_of_getElem? hp)
  have h2 := List.nodup_append.1 h1
  exact h2.2.2 g hg g hg2 rfl

theorem ReadK.bend {w w1 : World} {B n cap o : Nat} {ls : List Ch.Lock} {vs : List (Value × Value)} (h : ReadK w B (.slice (some ⟨o, 0, none⟩) n cap) n ls vs) {k : Nat} {p : Value × Value} (hp : vs[k]? = some p) {row : Option Nat} (gr : w.grownBy w1 row) (hrow : ∀ g, row = some g → g ∈ rblk p)
    (l' : Ch.Lock) (p' : Value × Value) {j : Nat} {u : Value} (hcell : (lcells ls vs).set (k * 3 + j) u = lcells (ls.set k l') (vs.set k p')) (sx : SubR w1 B p'.1 l'.hs) (sy : SubR w1 B p'.2 l'.qs) (ho : o ∉ rblk p') :
    LkIn B w1.heap.size (w1.setCell ⟨o, k * 3 + j, none⟩ u) (some ⟨o, 0, none⟩) n (ls.set k l') ∧ w1.grownBy (w1.setCell ⟨o, k * 3 + j, none⟩ u) (some o) := by
  have hap := List.nodup_append.1 h.apart
  have hoin : ∀ (i : Nat) (q : Value × Value), vs[i]? = some q → o ∉ rblk q := fun i q hq hm => hap.2.2 o (by simp [Value.ownBlock]) o (List.mem_flatMap.2 ⟨q, List.mem_of_getElem? hq, hm⟩) rfl
  have row1 := owns_grown h.row gr (fun g hg e => by
    simp only [Value.ownBlock, Option.some.injEq] at hg
    subst hg
    exact hoin k p hp (hrow _ e))
  have hst := row1.stored (k * 3 + j) u
  rw [hcell] at hst
  have hsz : (w1.setCell ⟨o, k * 3 + j, none⟩ u).heap.size = w1.heap.size := by simp [World.setCell]
  have hkl : k < ls.length := by rw [h.len, ← h.vlen]; exact (List.getElem?_eq_some_iff.1 hp).1
  have key := lkIn_parts (ls := ls.set k l') (vs := vs.set k p') (by simp [h.len]) (by simp [h.vlen]) hst.1 (fun i q hq => ?_) (fun i q hq => ?_)
  · rw [hsz] at key; exact ⟨key, hst.2⟩
  · rw [lk_set _ _ _ _ hkl]
    by_cases e : k = i
    · subst e
      rw [List.getElem?_set_self (by rw [h.vlen, ← h.len]; exact hkl)] at hq
      obtain rfl := Option.some.inj hq
      rw [if_pos rfl]
      exact subR_grown sx hst.2 (fun g e hg => by cases e; exact ho (by simp [rblk, hg]))
    · rw [List.getElem?_set_ne e] at hq
      rw [if_neg e]
      refine subR_grown (sub_grown (h.hs i q hq) gr (fun g e' hg => ?_)).r hst.2 (fun g e' hg => ?_)
      · exact rblk_apart hap.2.1 e hp hq (hrow g e') (by simp [rblk, hg])
      · cases e'; exact hoin i q hq (by simp [rblk, hg])
  · rw [lk_set _ _ _ _ hkl]
    by_cases e : k = i
    · subst e
      rw [List.getElem?_set_self (by rw [h.vlen, ← h.len]; exact hkl)] at hq
      obtain rfl := Option.some.inj hq
      rw [if_pos rfl]
      exact subR_grown sy hst.2 (fun g e hg => by cases e; exact ho (by simp [rblk, hg]))
    · rw [List.getElem?_set_ne e] at hq
      rw [if_neg e]
      refine subR_grown (sub_grown (h.qs i q hq) gr (fun g e' hg => ?_)).r hst.2 (fun g e' hg => ?_)
      · exact rblk_apart hap.2.1 e hp hq (hrow g e') (by simp [rblk, hg])
      · cases e'; exact hoin i q hq (by simp [rblk, hg])
theorem ReadK.cell {w : World} {B n cap o : Nat} {ls : List Ch.Lock} {vs : List (Value × Value)} (h : ReadK w B (.slice (some ⟨o, 0, none⟩) n cap) n ls vs) {k : Nat} {p : Value × Value} (hp : vs[k]? = some p) :
    w.cell? ⟨o, k * 3, none⟩ = some (.int .i64 (Ch.lkAt ls k).r) ∧ w.cell? ⟨o, k * 3 + 1, none⟩ = some p.1 ∧ w.cell? ⟨o, k * 3 + 2, none⟩ = some p.2 := by
  have hk : k < n := by rw [← h.vlen]; exact (List.getElem?_eq_some_iff.1 hp).1
  obtain ⟨b, off, ha, hcc⟩ := (owns_cells h.row).2 (by omega)
  simp only [Option.some.injEq, Addr.mk.injEq, and_true] at ha
  obtain ⟨rfl, rfl⟩ := ha
  have hl := lcells_at (by rw [h.len, h.vlen]) hp (ls := ls)
  have e0 := (hcc (k * 3) (by omega)).trans hl.1
  have e1 := (hcc (k * 3 + 1) (by omega)).trans hl.2.1
  have e2 := (hcc (k * 3 + 2) (by omega)).trans hl.2.2
  rw [Nat.zero_add] at e0 e1 e2
  exact ⟨e0, e1, e2⟩
end Go.Proofs.Ytjagobcogkdfhaa


/- Regions that load a cell and store into it behind: a condition on the world that is kept only by those operations that can come ahead of the load. -/
namespace Go.Proofs.Ytjagobcogkdfhaa
open Go.RowKit

section
variable {P : Program} {ops : Array Oper} {Q : Exit → Act → World → Prop} {md : Region.Mode} {S G : World → Prop} {F : Nat → Bool}

/-- Any order from here on; those that F names leave S behind them. -/
def anyM (P : Program) (md : Region.Mode) (ops : Array Oper) (Q : Exit → Act → World → Prop) (S : World → Prop) (F : Nat → Bool) : Nat → Array Bool → Act → World → Prop
  | 0, listed, a, w => Region.ready md ops listed = [] ∧ Q .normal a w
  | n + 1, listed, a, w => (Region.ready md ops listed = [] → Q .normal a w) ∧ ∀ i ∈ Region.ready md ops listed, wpOp P ops Q i (fun a' w' => (F i = true → S w') ∧ anyM P md ops Q S F n (listed.setIfInBounds i true) a' w') a w

theorem any_of_M : ∀ (n : Nat) (listed : Array Bool) (a : Act) (w : World), anyM P md ops Q S F n listed a w → wpAny P md ops Q n listed a w
  | 0, _, _, _, h => h
  | n + 1, _, _, _, h => ⟨h.1, fun i hi => wpOp_mono (fun a' w' k => any_of_M n _ a' w' k.2) (h.2 i hi)⟩
theorem region_M {id : Nat} {a : Act} {w : World} (hm : P.follows .mixedOrders = true) (hS : S w.drew)
    (h : S w.drew → anyM P .any ops Q S F ops.size (Array.replicate ops.size false) a w.drew) : (Code.region id ops true).wp P Q a w :=
  wp_region_any hm (any_of_M _ _ _ _ (h hS))
/-- Where none is left that F names the condition is not asked any more. -/
theorem M_of_H : ∀ (n : Nat) (listed : Array Bool) (a : Act) (w : World), (∀ j, listed.getD j true = false → F j = false) → wpAnyH P md ops Q (fun _ => True) n listed a w → anyM P md ops Q S F n listed a w
  | 0, _, _, _, _, h => h
  | n + 1, listed, a, w, hF, h => ⟨h.1, fun i hi => wpOp_mono (fun a' w' k => ⟨(fun e => Bool.noConfusion ((hF i (mem_ready.1 hi).1).symm.trans e)), M_of_H n _ a' w' (fun j hj => by
      by_cases hij : i = j
      · subst hij; exact hF i (mem_ready.1 hi).1
      · rw [getD_set_ne true hij] at hj; exact hF j hj) k.2⟩) (h.2 i hi)⟩

theorem M_first {i : Nat} {oi : Oper} {v : Value} (hi : ops[i]? = some oi) (hsel : ∀ (j : Nat) (o : Oper) cs b, ops[j]? = some o → o.op ≠ .select cs b)
    (hQ : ∀ c a w, Q (.panic c) (a.put oi.dst v) w → Q (.panic c) a w) :
    ∀ (n : Nat) (listed : Array Bool) (a : Act) (w : World),
      (∀ j oj, ops[j]? = some oj → j ≠ i → listed.getD j true = false → (∀ e ∈ oj.after, Region.binds md e = true → e.on ≠ i) → ∀ w', (F j = true → S w') → G w') →
      (∀ j oj, ops[j]? = some oj → j ≠ i → listed.getD j true = false → (∀ e ∈ oj.after, Region.binds md e = true → e.on ≠ i) → oi.apart ops oj = true) →
      i ∈ Region.ready md ops listed → YieldsIf P ops G oi v a → G w → (∀ w', G w' → F i = true → S w') →
      anyM P md ops Q S F n (listed.setIfInBounds i true) (a.put oi.dst v) w → anyM P md ops Q S F (n + 1) listed a w := by
  intro n
  have other : ∀ {listed : Array Bool} {j : Nat}, i ∈ Region.ready md ops listed → j ∈ Region.ready md ops listed → j ≠ i → ∃ oj, ops[j]? = some oj ∧ listed.getD j true = false ∧ ∀ e ∈ oj.after, Region.binds md e = true → e.on ≠ i := by
    intro listed j hr hj _
    obtain ⟨hjun, oj, hoj, hall⟩ := mem_ready.1 hj
    refine ⟨oj, hoj, hjun, fun e he hb heq => ?_⟩
    have h1 := hall e he hb
    have h0 := (mem_ready.1 hr).1
    rw [heq] at h1
    rcases Nat.lt_or_ge i listed.size with h' | h'
    · simp [h'] at h0 h1; rw [h0] at h1; cases h1
    · simp [Array.getElem?_eq_none h'] at h1
  induction n with
  | zero =>
    intro listed a w _ _ hr hy hgw hSi H
    refine ⟨fun h => (by rw [h] at hr; cases hr), fun j hj => ?_⟩
    by_cases hji : j = i
    · subst hji; exact hy.wpOp hi hgw ⟨hSi w hgw, H⟩
    · have := ready_mono hj hji
      rw [H.1] at this
      cases this
  | succ n ih =>
    intro listed a w hG hfree hr hy hgw hSi H
    refine ⟨fun h => (by rw [h] at hr; cases hr), fun j hj => ?_⟩
    by_cases hji : j = i
    · subst hji; exact hy.wpOp hi hgw ⟨hSi w hgw, H⟩
    · obtain ⟨oj, hoj, hjun, hnot⟩ := other hr hj hji
      have old : ∀ q, (listed.setIfInBounds j true).getD q true = false → listed.getD q true = false := fun q hun => by
        by_cases hjq : j = q
        · subst hjq; exact hjun
        · rw [getD_set_ne true hjq] at hun; exact hun
      have h2 := wpOp_putIf hoj (hfree j oj hoj hji hjun hnot) (fun cs b => hsel i oi cs b hi) (fun cs b => hsel j oj cs b hoj) hQ hy (H.2 j (ready_mono hj hji))
      refine wpOp_mono (fun a' w' k => ⟨k.2.1, ih (listed.setIfInBounds j true) a' w' (fun q oq hq hqi hun hno => hG q oq hq hqi (old q hun) hno) (fun q oq hq hqi hun hno => hfree q oq hq hqi (old q hun) hno) (ready_mono hr (Ne.symm hji)) k.1 (hG j oj hoj hji hjun hnot w' k.2.1) hSi ?_⟩) h2
      rw [Array.setIfInBounds_comm _ _ hji]
      exact k.2.2

/-- One that yields in whatever world. -/
theorem mTake {l : List Oper} {i : Nat} {oi : Oper} {v : Value} {n : Nat} {listed : Array Bool} {a : Act} {w : World} (hi : l[i]? = some oi)
    (hs : Region.noSelect l.toArray = true) (hf : Region.free md l.toArray listed i = true) (hr : (Region.ready md l.toArray listed).contains i = true)
    (hw : Region.wanted oi (yielded l.toArray a.tmps) = true) (hy : ∀ W, (execOp a.eval oi).run P W = .ok (.value v) W) (hF : F i = false)
    (h : anyM P md l.toArray (NoPanic Q) S F n (listed.setIfInBounds i true) (a.put oi.dst v) w) : anyM P md l.toArray (NoPanic Q) S F (n + 1) listed a w :=
  M_first (G := fun _ => True) (by simpa using hi) (Region.noSelect_spec hs) (fun _ _ _ h => h) n listed a w (fun _ _ _ _ _ _ _ _ => trivial) (Region.free_spec (by simpa using hi) hf) (by simpa using hr) (Or.inl ⟨hw, fun W _ => hy W⟩) trivial (fun _ _ e => by rw [hF] at e; cases e) h
/-- The load: those that do not wait for it leave S. -/
theorem mLoad {l : List Oper} {i : Nat} {oi : Oper} {v : Value} {n : Nat} {listed : Array Bool} {a : Act} {w : World} (hi : l[i]? = some oi)
    (hs : Region.noSelect l.toArray = true) (hf : Region.free md l.toArray listed i = true) (hr : (Region.ready md l.toArray listed).contains i = true)
    (hw : Region.wanted oi (yielded l.toArray a.tmps) = true) (hy : ∀ W, S W → (execOp a.eval oi).run P W = .ok (.value v) W) (hS : S w)
    (hc : (List.range l.length).all (fun j => match l[j]? with | some oj => listed.getD j true || j == i || oj.after.any (fun e => Region.binds md e && e.on == i) || F j | none => true) = true)
    (h : anyM P md l.toArray (NoPanic Q) S F n (listed.setIfInBounds i true) (a.put oi.dst v) w) : anyM P md l.toArray (NoPanic Q) S F (n + 1) listed a w := by
  refine M_first (G := S) (by simpa using hi) (Region.noSelect_spec hs) (fun _ _ _ h => h) n listed a w (fun j oj hj hji hun hno w' hw' => ?_) (Region.free_spec (by simpa using hi) hf) (by simpa using hr) (Or.inl ⟨hw, hy⟩) hS (fun _ h _ => h) h
  have hj' : l[j]? = some oj := by simpa using hj
  have hjl := (List.getElem?_eq_some_iff.1 hj').1
  have := List.all_eq_true.1 hc j (List.mem_range.2 hjl)
  rw [hj'] at this
  simp only [Bool.or_eq_true, beq_iff_eq, Array.any_eq_true] at this
  rw [hun] at this
  rcases this with ((h1 | h1) | ⟨q, hq, h1⟩) | h1
  · cases h1
  · exact absurd h1 hji
  · simp only [Bool.and_eq_true, beq_iff_eq] at h1
    exact absurd h1.2 (hno _ (Array.getElem_mem hq) h1.1)
  · exact hw' h1

def AllM (P : Program) (md : Region.Mode) (ops : Array Oper) (Q : Exit → Act → World → Prop) (S : World → Prop) (F : Nat → Bool) (n : Nat) (listed : Array Bool) (a : Act) (w : World) (rs : List Nat) : Prop :=
  ∀ i ∈ rs, wpOp P ops Q i (fun a' w' => (F i = true → S w') ∧ anyM P md ops Q S F n (listed.setIfInBounds i true) a' w') a w
theorem AllM.nil {n : Nat} {listed : Array Bool} {a : Act} {w : World} : AllM P md ops Q S F n listed a w [] := fun _ h => by cases h
theorem AllM.cons {n : Nat} {listed : Array Bool} {a : Act} {w : World} {i : Nat} {o : Oper} {rs : List Nat} (ho : ops[i]? = some o)
    (h : ∀ K' : Act → World → Prop, Shut (∀ a w, S w → (S w → anyM P md ops Q S F n (listed.setIfInBounds i true) a w) → K' a w) → if Region.wanted o (yielded ops a.tmps) = true then Oper.wp P o a w K' Q else K' (a.put o.dst undef) w)
    (hs : AllM P md ops Q S F n listed a w rs) : AllM P md ops Q S F n listed a w (i :: rs) := fun j hj => by
  rcases List.mem_cons.1 hj with rfl | hj
  · exact wpOp_step ho (fun K' hK => h K' (fun a w hS hW => hK a w ⟨fun _ => hS, hW hS⟩))
  · exact hs j hj
theorem M_ready {rs : List Nat} {n : Nat} {listed : Array Bool} {a : Act} {w : World} (hr : Region.ready md ops listed = rs) (hne : rs ≠ []) (h : AllM P md ops Q S F n listed a w rs) : anyM P md ops Q S F (n + 1) listed a w :=
  ⟨fun h0 => absurd (hr ▸ h0) hne, by rw [hr]; exact h⟩
/-- For the tail: none is left that F names. -/
theorem M_tail {l : List Oper} {n : Nat} {listed : Array Bool} {a : Act} {w : World} (hc : (List.range l.length).all (fun j => listed.getD j true || !F j) = true) (hF : ∀ j, l.length ≤ j → F j = false) (h : wpAnyH P md l.toArray Q (fun _ => True) n listed a w) : anyM P md l.toArray Q S F n listed a w := by
  refine M_of_H n listed a w (fun j hj => ?_) h
  by_cases hl : j < l.length
  · have := List.all_eq_true.1 hc j (List.mem_range.2 hl)
    rw [hj] at this
    simpa using this
  · exact hF j (by omega)
end
end Go.Proofs.Ytjagobcogkdfhaa


/- Locks that a draw bends: l6Bent. -/
namespace Go.Proofs.Ytjagobcogkdfhaa
open Go.RowKit

theorem step_run {ops : Array Oper} {o : Oper} {a : Act} {w w' : World} {K : Act → World → Prop} {Q : Exit → Act → World → Prop} {E : Prop} {t tn : TypeId} (s x : Operand)
    (ho : o.op = .call { callee := .builtin .append, args := #[s, x], argTypes := #[t, tn] }) (hgd : o.guard = none) (v xv : Value) (hs : a.eval s = v) (hx : a.eval x = xv) {r : Value}
    (hr : (Builtin.append_ #[t, tn] o.type #[v, xv]).run Try.prog w = .ok r w') (hK : K (a.put o.dst r) w') :
    if Region.wanted o (yielded ops a.tmps) = true then Oper.wp Try.prog o a w K Q else E := by
  have hw : Region.wanted o (yielded ops a.tmps) = true := by simp [Region.wanted, hgd]
  rw [if_pos hw]
  exact Lib.wp_append_run w s x t tn ho _ _ hs hx _ _ hr hK
theorem gr_then {w w' w'' : World} {s : Nat} {row : Option Nat} (h : w.grownBy w' (some s)) (k : w'.grownBy w'' row) (hr : ∀ g, row = some g → w.heap.size ≤ g) : w.grownBy w'' (some s) :=
  ⟨k.os.trans h.os, k.tape.trans h.tape, k.output.trans h.output, Nat.le_trans h.size k.size, fun j hj hne => (k.block j (Nat.lt_of_lt_of_le hj h.size) (fun e => by have := hr j e.symm; omega)).trans (h.block j hj hne)⟩
theorem LkIn.up {lo hi hi' : Nat} {w : World} {a : Option Addr} {n : Nat} {ls : List Ch.Lock} (h : LkIn lo hi w a n ls) (hh : hi ≤ hi') : LkIn lo hi' w a n ls := by
  refine ⟨h.1, fun h0 => ?_⟩
  obtain ⟨b, off, ha, h1, h2, hi'⟩ := h.2 h0
  refine ⟨b, off, ha, h1, by omega, fun i hlt => ?_⟩
  obtain ⟨ah, nh, ch, aq, nq, cq, h3, hA, hQ⟩ := hi' i hlt
  exact ⟨ah, nh, ch, aq, nq, cq, h3, fun g o h0 e => by have := hA g o h0 e; omega, fun g o h0 e => by have := hQ g o h0 e; omega⟩
theorem Ch.size_set (ls : List Ch.Lock) (k : Nat) (l : Ch.Lock) : Ch.lkSize (ls.set k l) ≤ Ch.lkSize ls + (l.hs.length + l.qs.length) := by
  unfold Ch.lkSize Ch.lkSum
  simp only [List.length_set]
  have : ∀ (xs : List Ch.Lock) (k : Nat), ((xs.set k l).map fun l => l.hs.length + l.qs.length).sum ≤ (xs.map fun l => l.hs.length + l.qs.length).sum + (l.hs.length + l.qs.length) := by
    intro xs
    induction xs with
    | nil => intro k; simp
    | cons x xs ih =>
      intro k
      cases k with
      | zero => simp only [List.set_cons_zero, List.map_cons, List.sum_cons]; omega
      | succ k => have := ih k; simp only [List.set_cons_succ, List.map_cons, List.sum_cons]; omega
  have := this ls k
  omega

theorem Ch.Few.more {ls : List Ch.Lock} (h : Ch.Few 16 ls) : Ch.Few 17 ls := fun l hl => Nat.le_succ_of_le (h l hl)
theorem Ch.Few.set {ls : List Ch.Lock} (h : Ch.Few 16 ls) (k : Nat) {l : Ch.Lock} (hl : l.hs.length + l.qs.length ≤ 17) : Ch.Few 17 (ls.set k l) := by
  intro x hx
  rcases List.mem_or_eq_of_mem_set hx with hx | rfl
  · exact h.more x hx
  · exact hl

/-- What l6Bent answers. -/
def BentD (s : Nat) (a : Option Addr) (n cap d : Nat) (zs : List Int) (w : World) (e : Ending) (w' : World) : Prop :=
  ∃ a' m c' ls d', e = .returned (.slice a' m c') ∧ LkIn w.heap.size w'.heap.size w' a' m ls ∧ Ch.lkSize ls ≤ 6000 ∧ d' ≤ d + 100 ∧ Src w' s a n cap d' zs ∧ w.grownBy w' (some s) ∧ Ch.Few 17 ls

set_option linter.unusedSimpArgs false in
set_option maxRecDepth 20000 in
set_option maxHeartbeats 16000000 in
theorem l6Bent_any (s : Nat) (a : Option Addr) (n cap d : Nat) (zs : List Int) (w : World) (src : Src w s a n cap d zs) (hb : IsB zs) (hn : n ≤ 1048580) (hd : d ≤ 50) :
    Calls Try.prog 88 #[.pointer (some ⟨s, 0, none⟩)] w fun e w' => BentD s a n cap d zs w e w' := by
  have HB := hid hb
  obtain ⟨W0, hW0⟩ : ∃ W0, w.heap.size = W0 := ⟨_, rfl⟩
  have lS0 := src.lt
  rw [hW0] at lS0
  clear hb
  go_enter Try.func88, Try.ntmps88
  go_wp2_with fail
  refine (next_any 16 s a n cap d zs _ src HB.out hn (by omega) (by decide) (by decide)).mono ?_
  rintro e u1 ⟨⟨x1, x10, x15, rfl⟩, s1, g1⟩
  have hz1 := g1.size
  go_wp2_with fail
  refine (l6Right_any x1 s a n cap (d + 1) zs _ s1 HB.out hn (by omega) x10 (by omega)).mono ?_
  rintro e u2 ⟨a', m, c', ls, vs, d', rfl, rk, hg, hd', src, g2, hfw⟩
  have HFW := hid hfw
  clear hfw
  have gr := gr_trans g1 g2
  replace rk := rk.base (B' := W0) (by omega)
  have HG := hid hg
  have HSZ := hid (Ch.good_size hg)
  have hm101 : m ≤ 101 := by have := Ch.good_few hg; have := rk.len; omega
  have hgrs := gr.size
  clear hg g1 g2 s1 x10 x15 hz1
  by_cases hm0 : m = 0
  · subst hm0
    go_wp2
    go_ret
    exact ⟨a', 0, c', ls, d', rfl, hW0 ▸ rk.lkIn, by have := HSZ.out; omega, by omega, src, gr, HFW.out.more⟩
  have hmp : 0 < m := by omega
  have hmz : ((m : Int) == 0) = false := by rw [beq_eq_false_iff_ne]; omega
  obtain ⟨o, rfl⟩ : ∃ o, a' = some ⟨o, 0, none⟩ := by
    rcases rk.row.2 with ⟨hv, h0⟩ | ⟨g, cp, cur, hv, _⟩
    · omega
    · simp only [Value.slice.injEq] at hv; exact ⟨g, hv.1⟩
  have hob := owns_lt rk.row o rfl
  clear hm0
  go_wp2_with fail
  refine (next_any (m : Int) s a n cap d' zs _ src HB.out hn (by omega) (by omega) (by omega)).mono ?_
  rintro e u3 ⟨⟨xk, xk0, xkm, rfl⟩, s3, g3⟩
  replace rk := rk.drew g3 lS0
  replace gr := gr_trans gr g3
  obtain ⟨k, rfl⟩ : ∃ k : Nat, xk = (k : Int) := ⟨xk.toNat, by omega⟩
  have hkm : k < m := by omega
  clear g3 src xk0 xkm
  go_wp2_with fail
  refine (next_any 20 s a n cap (d' + 1) zs _ s3 HB.out hn (by omega) (by decide) (by decide)).mono ?_
  rintro e U ⟨⟨t, t0, t20, rfl⟩, src, g4⟩
  replace rk := rk.drew g4 lS0
  replace gr := gr_trans gr g4
  replace hob := owns_lt rk.row o rfl
  clear g4 s3
  have hkl : k < ls.length := by rw [rk.len]; exact hkm
  have hlv : ls.length = vs.length := by rw [rk.len, rk.vlen]
  obtain ⟨p, hp⟩ : ∃ p, vs[k]? = some p := ⟨vs[k]'(by rw [rk.vlen]; exact hkm), by simp⟩
  have HFK := hid (HFW.out _ (Ch.lk_mem hkl))
  have HGL := hid (Ch.lock_good (Ch.good_mem HG.out (Ch.lk_mem hkl)))
  have hap := List.nodup_append.1 rk.apart
  have hop : o ∉ rblk p := fun hm => hap.2.2 o (by simp [Value.ownBlock]) o (List.mem_flatMap.2 ⟨p, List.mem_of_getElem? hp, hm⟩) rfl
  have hnd := hap.2.1
  have hpb : ∀ g ∈ rblk p, W0 ≤ g ∧ g < U.heap.size := fun g hg => rk.bd (List.mem_append.2 (.inr (List.mem_flatMap.2 ⟨p, List.mem_of_getElem? hp, hg⟩)))
  have HX := hid (rk.hs k p hp)
  have HY := hid (rk.qs k p hp)
  have HNP := hid hop
  have HND := hid hnd
  have HPB := hid hpb
  have hWU : W0 ≤ U.heap.size := by have := gr.size; omega
  clear hap hop hnd hpb hgrs
  obtain ⟨x, y⟩ := p
  obtain ⟨ah, nh, ch, ex, hxc, hxn, _, _, _⟩ := HX.out
  obtain ⟨aq, nq, cq, ey, hyc, hyn, _, _, _⟩ := HY.out
  simp only at ex ey hxc hyc
  subst ex ey
  obtain ⟨r0, r1, r2⟩ := rk.cell hp
  simp only at r1 r2
  have f0 := rk.row.frozenAt (k * 3)
  have f1 := rk.row.frozenAt (k * 3 + 1)
  have f2 := rk.row.frozenAt (k * 3 + 2)
  have lo := lt_of_cell r0
  have HNH : Hid (nh = (Ch.lkAt ls k).hs.length ∧ nq = (Ch.lkAt ls k).qs.length) := ⟨hxc.hlen.out, hyc.hlen.out⟩
  clear hxc hyc
  by_cases h0 : t = 0
  · subst h0
    have hpk := heap_alloc_new U (.cells #[.int .i64 (-1), .int .i64 101, .int .i64 2] 2)
    go_wp2_with fail
    refine (pick_any U.heap.size 3 [-1, 101, 2] s a n cap (d' + 1 + 1) zs _ src.new HB.out hn (by omega) hpk (by omega) rfl (by decide) (by decide)).mono ?_
    rintro e V ⟨⟨v, _, rfl⟩, s5, g5⟩
    have rk5 := (rk.below ((Below.refl _ _).alloc (Nat.le_refl _) _)).drew g5 lS0
    have gr5 := gr_trans (gr_new gr) g5
    have hbd := rk5.bend hp (row := none) ⟨rfl, rfl, rfl, Nat.le_refl _, fun _ _ _ => rfl⟩ (fun g e => by cases e) ⟨v, (Ch.lkAt ls k).hs, (Ch.lkAt ls k).qs⟩ _ (cells_r hlv hp hkl v) (rk5.hs k _ hp).r (rk5.qs k _ hp).r HNP.out
    rw [Nat.add_zero] at hbd
    obtain ⟨q0, _, _⟩ := rk5.cell hp
    have ff := rk5.row.frozenAt (k * 3)
    have lq := lt_of_cell q0
    clear r0 r1 r2 f0 f1 f2 hpk g5
    go_wp2
    go_ret
    refine ⟨_, m, c', _, d' + 3, rfl, hW0 ▸ (hbd.1.up (by simp [World.setCell])), ?_, by omega, s5.set (by omega), gr_set' gr5 (by omega), ?_⟩
    · have h1 := Ch.size_set ls k ⟨v, (Ch.lkAt ls k).hs, (Ch.lkAt ls k).qs⟩
      have h2 := HSZ.out
      have h3 := HGL.out
      simp only [List.length_append, List.length_cons, List.length_nil] at h1
      omega
    · refine HFW.out.set k ?_
      have h3 := HFK.out
      simp only [List.length_append, List.length_cons, List.length_nil]
      omega
  have b0 : (t == 0) = false := by simpa using h0
  clear h0
  by_cases h1 : t = 1
  · subst h1
    go_wp2_with fail
    refine wp_region_noPanic ?_
    refine region_M (S := fun W' => W'.cell? ⟨o, k * 3 + 1, none⟩ = some (.slice ah nh ch)) (F := fun j => j == 6 || j == 7 || j == 9 || j == 10 || j == 11 || j == 12) (by kernel_rfl) (r1) (fun hH => ?_)
    clear r0 r1 r2 f0 f1 f2
    have kD : Below U.heap.size U U.drew := (Below.refl _ _).drew
    have lsU := src.lt
    replace src : Src U.drew s a n cap (d' + 1 + 1) zs := src.drewN 1
    replace rk := rk.below kD
    replace gr := gr_on gr (kD.mono gr.size)
    clear kD
    refine mTake (i := 0) (v := ?_) rfl (by kernel_rfl) (by kernel_rfl) (by kernel_rfl) (by rfl) ?_ rfl ?_
    rotate_left
    · intro W; go_simp <;> with_reducible rfl
    simp only [Act.put, List.setIfInBounds_toArray, List.set_cons_zero, List.set_cons_succ]
    refine mTake (i := 1) (v := ?_) rfl (by kernel_rfl) (by kernel_rfl) (by kernel_rfl) (by rfl) ?_ rfl ?_
    rotate_left
    · intro W; go_simp <;> with_reducible rfl
    simp only [Act.put, List.setIfInBounds_toArray, List.set_cons_zero, List.set_cons_succ]
    refine mTake (i := 2) (v := ?_) rfl (by kernel_rfl) (by kernel_rfl) (by kernel_rfl) (by rfl) ?_ rfl ?_
    rotate_left
    · intro W; go_simp <;> with_reducible rfl
    simp only [Act.put, List.setIfInBounds_toArray, List.set_cons_zero, List.set_cons_succ]
    refine mTake (i := 3) (v := ?_) rfl (by kernel_rfl) (by kernel_rfl) (by kernel_rfl) (by rfl) ?_ rfl ?_
    rotate_left
    · intro W; go_simp <;> with_reducible rfl
    simp only [Act.put, List.setIfInBounds_toArray, List.set_cons_zero, List.set_cons_succ]
    refine mTake (i := 5) (v := ?_) rfl (by kernel_rfl) (by kernel_rfl) (by kernel_rfl) (by rfl) ?_ rfl ?_
    rotate_left
    · intro W; go_simp <;> with_reducible rfl
    simp only [Act.put, List.setIfInBounds_toArray, List.set_cons_zero, List.set_cons_succ]
    refine mTake (i := 8) (v := ?_) rfl (by kernel_rfl) (by kernel_rfl) (by kernel_rfl) (by rfl) ?_ rfl ?_
    rotate_left
    · intro W; go_simp <;> with_reducible rfl
    simp only [Act.put, List.setIfInBounds_toArray, List.set_cons_zero, List.set_cons_succ]
    refine mLoad (i := 4) (v := ?_) rfl (by kernel_rfl) (by kernel_rfl) (by kernel_rfl) (by rfl) ?_ hH (by kernel_rfl) ?_
    rotate_left
    · intro W hW; (try dsimp only at hW); go_simp <;> with_reducible rfl
    simp only [Act.put, List.setIfInBounds_toArray, List.set_cons_zero, List.set_cons_succ]
    refine M_ready (rs := [6, 9]) (by kernel_rfl) (by simp) ?_
    refine AllM.cons rfl (fun K hK => ?_) (AllM.cons rfl (fun K hK => ?_) AllM.nil)
    · go_simp
      refine hK.out _ _ (keep_cell ((Below.refl _ _).alloc (Nat.le_refl _) _) hH) (fun hH => ?_)
      clear hK K
      have ZA := heap_alloc_new U.drew (.cells #[.int .i64 1, .int .i64 9, .int .i64 0] 2)

      have nA : U.heap.size ≠ s := by omega
      have kO : Below U.drew.heap.size U.drew (U.drew.alloc (.cells #[.int .i64 1, .int .i64 9, .int .i64 0] 2)) := (Below.refl _ _).alloc (Nat.le_refl _) _
      replace src := src.new (o := .cells #[.int .i64 1, .int .i64 9, .int .i64 0] 2)
      replace rk := rk.below kO
      replace gr := gr_new (o := .cells #[.int .i64 1, .int .i64 9, .int .i64 0] 2) gr
      clear kO
      refine M_ready (rs := [7, 9]) (by kernel_rfl) (by simp) ?_
      refine AllM.cons rfl (fun K hK => ?_) (AllM.cons rfl (fun K hK => ?_) AllM.nil)
      · go_simp
        refine (pick_any (U.heap.size) 3 [1, 9, 0] s a n cap (d' + 1 + 1) zs _ src HB.out hn (by omega) ZA nA rfl (by decide) (by decide)).mono ?_
        rintro e uP ⟨⟨xP, _, rfl⟩, sP, gP⟩
        replace rk := rk.drew gP lS0
        replace gr := gr_trans gr gP
        clear src
        have src := sP
        have hQ := grown_cell gP hH (fun e => by cases e; omega)
        have lsP := src.lt
        clear sP gP ZA nA
        go_wp2_with fail
        refine hK.out _ _ hQ (fun hH => ?_)
        clear hK K hQ
        refine M_ready (rs := [9]) (by kernel_rfl) (by simp) ?_
        refine AllM.cons rfl (fun K hK => ?_) AllM.nil
        · go_simp
          refine hK.out _ _ (keep_cell ((Below.refl _ _).alloc (Nat.le_refl _) _) hH) (fun hH => ?_)
          clear hK K
          have ZB := heap_alloc_new uP (.cells #[.int .i64 1, .int .i64 5, .int .i64 6] 2)

          have nB : uP.heap.size ≠ s := by omega
          have kO : Below uP.heap.size uP (uP.alloc (.cells #[.int .i64 1, .int .i64 5, .int .i64 6] 2)) := (Below.refl _ _).alloc (Nat.le_refl _) _
          replace src := src.new (o := .cells #[.int .i64 1, .int .i64 5, .int .i64 6] 2)
          replace rk := rk.below kO
          replace gr := gr_new (o := .cells #[.int .i64 1, .int .i64 5, .int .i64 6] 2) gr
          clear kO
          refine M_ready (rs := [10]) (by kernel_rfl) (by simp) ?_
          refine AllM.cons rfl (fun K hK => ?_) AllM.nil
          · go_simp
            refine (pick_any (uP.heap.size) 3 [1, 5, 6] s a n cap (d' + 1 + 1 + 1) zs _ src HB.out hn (by omega) ZB nB rfl (by decide) (by decide)).mono ?_
            rintro e uQ ⟨⟨xQ, _, rfl⟩, sQ, gQ⟩
            replace rk := rk.drew gQ lS0
            replace gr := gr_trans gr gQ
            clear src
            have src := sQ
            have hQ := grown_cell gQ hH (fun e => by cases e; omega)
            have lsQ := src.lt
            clear sQ gQ ZB nB
            go_wp2_with fail
            refine hK.out _ _ hQ (fun hH => ?_)
            clear hK K hQ
            refine M_ready (rs := [11]) (by kernel_rfl) (by simp) ?_
            refine AllM.cons rfl (fun K hK => ?_) AllM.nil
            · go_simp
              refine hK.out _ _ hH (fun hH => ?_)
              clear hK K
              refine M_ready (rs := [12]) (by kernel_rfl) (by simp) ?_
              refine AllM.cons rfl (fun K hK => ?_) AllM.nil
              · go_simp
                refine hK.out _ _ (keep_cell ((Below.refl _ _).alloc (Nat.le_refl _) _) hH) (fun hH => ?_)
                clear hK K
                have HN := new_hold uQ xP xQ 131
                have kO : Below uQ.heap.size uQ (uQ.alloc (.cells #[.int .i64 xP, .int .i64 xQ] 131)) := (Below.refl _ _).alloc (Nat.le_refl _) _
                replace src := src.new (o := .cells #[.int .i64 xP, .int .i64 xQ] 131)
                replace rk := rk.below kO
                replace gr := gr_new (o := .cells #[.int .i64 xP, .int .i64 xQ] 131) gr
                clear kO
                have hWW : W0 ≤ (uQ.alloc (.cells #[.int .i64 xP, .int .i64 xQ] 131)).heap.size := by have := gr.size; omega
                have hlen5 : (Ch.lkAt ls k).hs.length ≤ 100 := by have := HGL.out; omega
                obtain ⟨x', w5, hr5, sx5, ⟨row5, gr5, hrow5⟩, hnew5⟩ := sub_app (rk.hs k _ hp) hWW hlen5 xP xQ HN 127
                simp only at hr5 hrow5 hnew5
                obtain ⟨a5, n5, c5, rfl, _⟩ : ∃ a5 n5 c5, x' = .slice a5 n5 c5 ∧ True := by obtain ⟨a5, n5, c5, e, _⟩ := sx5; exact ⟨a5, n5, c5, e, trivial⟩
                refine M_tail (by kernel_rfl) (fun j hj => by simp at hj ⊢; omega) ?_
                clear hH
                have hH : True := trivial
                refine wpAnyH_ready (rs := [13]) (by kernel_rfl) (by simp) ?_
                refine AllReadyH.cons rfl (fun K hK => ?_) AllReadyH.nil
                refine step_run (.tmp 35) (.tmp 43) rfl rfl _ _ rfl rfl hr5 ?_
                refine hK.out _ _ trivial (fun hH => ?_)
                clear hK K
                simp only [Act.put, List.setIfInBounds_toArray, List.set_cons_zero, List.set_cons_succ]
                refine hTake (i := 14) (v := ?_) rfl (by kernel_rfl) (by kernel_rfl) (by kernel_rfl) (by rfl) ?_ hH ?_
                rotate_left
                · intro W hW; (try dsimp only at hW); go_simp <;> with_reducible rfl
                simp only [Act.put, List.setIfInBounds_toArray, List.set_cons_zero, List.set_cons_succ]
                refine hTake (i := 15) (v := ?_) rfl (by kernel_rfl) (by kernel_rfl) (by kernel_rfl) (by rfl) ?_ hH ?_
                rotate_left
                · intro W hW; (try dsimp only at hW); go_simp <;> with_reducible rfl
                simp only [Act.put, List.setIfInBounds_toArray, List.set_cons_zero, List.set_cons_succ]
                have hno : o ∉ rblk (.slice a5 n5 c5, .slice aq nq cq) := by
                  intro hm
                  simp only [rblk, List.mem_append] at hm
                  rcases hm with h | h
                  · rcases hnew5 o h with h | h
                    · exact HNP.out (by simp [rblk, h])
                    · have := (owns_lt rk.row o rfl).2; omega
                  · exact HNP.out (by simp [rblk, h])
                have hbd := rk.bend hp gr5 (fun g e => List.mem_append.2 (.inl (hrow5 g e))) ⟨(Ch.lkAt ls k).r, (Ch.lkAt ls k).hs ++ [⟨xP, xQ⟩], (Ch.lkAt ls k).qs⟩ (.slice a5 n5 c5, .slice aq nq cq) (cells_h hlv hp hkl (.slice a5 n5 c5) _) sx5 ((sub_grown (rk.qs k _ hp) gr5 (fun g e hg => rblk_two HND.out hp (hrow5 g e) hg)).r) hno
                have hrb : ∀ g, row5 = some g → W0 ≤ g := fun g e => (HPB.out g (List.mem_append.2 (.inl (hrow5 g e)))).1
                have hne5 : row5 ≠ some o := fun e => HNP.out (List.mem_append.2 (.inl (hrow5 o e)))
                have q1 := grown_cell gr5 (rk.cell hp).2.1 hne5
                simp only at q1
                have row6 := owns_grown rk.row gr5 (fun g hg e => by simp only [Value.ownBlock, Option.some.injEq] at hg; subst hg; exact hne5 e)
                have ff := row6.frozenAt (k * 3 + 1)
                have lq := lt_of_cell q1
                have src5 := src.grown gr5 (fun r e => by have := hrb r e; omega)
                have gr6 := gr_then gr gr5 (fun g e => by have := hrb g e; omega)
                refine wpAnyH_ready (rs := [16]) (by kernel_rfl) (by simp) ?_
                refine AllReadyH.cons rfl (fun K hK => ?_) AllReadyH.nil
                go_simp
                refine hK.out _ _ trivial (fun hH => ?_)
                clear hK K
                refine wpAnyH_done (by kernel_rfl) ?_ _
                refine NoPanic.normal ?_
                go_wp2
                go_ret
                refine ⟨_, m, c', _, d' + 4, rfl, hW0 ▸ (hbd.1.up (by simp [World.setCell])), ?_, by omega, src5.set (by omega), gr_set' gr6 (by omega), ?_⟩
                · have h1 := Ch.size_set ls k ⟨(Ch.lkAt ls k).r, (Ch.lkAt ls k).hs ++ [⟨xP, xQ⟩], (Ch.lkAt ls k).qs⟩
                  have h2 := HSZ.out
                  have h3 := HGL.out
                  simp only [List.length_append, List.length_cons, List.length_nil] at h1
                  omega
                · refine HFW.out.set k ?_
                  have h3 := HFK.out
                  simp only [List.length_append, List.length_cons, List.length_nil]
                  omega
      · go_simp
        refine hK.out _ _ (keep_cell ((Below.refl _ _).alloc (Nat.le_refl _) _) hH) (fun hH => ?_)
        clear hK K
        have ZB := heap_alloc_new (U.drew.alloc (.cells #[.int .i64 1, .int .i64 9, .int .i64 0] 2)) (.cells #[.int .i64 1, .int .i64 5, .int .i64 6] 2)
        rw [show (U.drew.alloc (.cells #[.int .i64 1, .int .i64 9, .int .i64 0] 2)).heap.size = U.heap.size + 1 by simp] at ZB
        have nB : U.heap.size + 1 ≠ s := by omega
        have kO : Below (U.drew.alloc (.cells #[.int .i64 1, .int .i64 9, .int .i64 0] 2)).heap.size (U.drew.alloc (.cells #[.int .i64 1, .int .i64 9, .int .i64 0] 2)) ((U.drew.alloc (.cells #[.int .i64 1, .int .i64 9, .int .i64 0] 2)).alloc (.cells #[.int .i64 1, .int .i64 5, .int .i64 6] 2)) := (Below.refl _ _).alloc (Nat.le_refl _) _
        replace src := src.new (o := .cells #[.int .i64 1, .int .i64 5, .int .i64 6] 2)
        replace rk := rk.below kO
        replace gr := gr_new (o := .cells #[.int .i64 1, .int .i64 5, .int .i64 6] 2) gr
        replace ZA := heap_below kO ZA
        clear kO
        refine M_ready (rs := [7]) (by kernel_rfl) (by simp) ?_
        refine AllM.cons rfl (fun K hK => ?_) AllM.nil
        · go_simp
          refine (pick_any (U.heap.size) 3 [1, 9, 0] s a n cap (d' + 1 + 1) zs _ src HB.out hn (by omega) ZA nA rfl (by decide) (by decide)).mono ?_
          rintro e uP ⟨⟨xP, _, rfl⟩, sP, gP⟩
          replace rk := rk.drew gP lS0
          replace gr := gr_trans gr gP
          replace ZB := gr_heap gP ZB (fun e => nB (Option.some.inj e).symm)
          clear src
          have src := sP
          have hQ := grown_cell gP hH (fun e => by cases e; omega)
          have lsP := src.lt
          clear sP gP ZA nA
          go_wp2_with fail
          refine hK.out _ _ hQ (fun hH => ?_)
          clear hK K hQ
          refine M_ready (rs := [10]) (by kernel_rfl) (by simp) ?_
          refine AllM.cons rfl (fun K hK => ?_) AllM.nil
          · go_simp
            refine (pick_any (U.heap.size + 1) 3 [1, 5, 6] s a n cap (d' + 1 + 1 + 1) zs _ src HB.out hn (by omega) ZB nB rfl (by decide) (by decide)).mono ?_
            rintro e uQ ⟨⟨xQ, _, rfl⟩, sQ, gQ⟩
            replace rk := rk.drew gQ lS0
            replace gr := gr_trans gr gQ
            clear src
            have src := sQ
            have hQ := grown_cell gQ hH (fun e => by cases e; omega)
            have lsQ := src.lt
            clear sQ gQ ZB nB
            go_wp2_with fail
            refine hK.out _ _ hQ (fun hH => ?_)
            clear hK K hQ
            refine M_ready (rs := [11]) (by kernel_rfl) (by simp) ?_
            refine AllM.cons rfl (fun K hK => ?_) AllM.nil
            · go_simp
              refine hK.out _ _ hH (fun hH => ?_)
              clear hK K
              refine M_ready (rs := [12]) (by kernel_rfl) (by simp) ?_
              refine AllM.cons rfl (fun K hK => ?_) AllM.nil
              · go_simp
                refine hK.out _ _ (keep_cell ((Below.refl _ _).alloc (Nat.le_refl _) _) hH) (fun hH => ?_)
                clear hK K
                have HN := new_hold uQ xP xQ 131
                have kO : Below uQ.heap.size uQ (uQ.alloc (.cells #[.int .i64 xP, .int .i64 xQ] 131)) := (Below.refl _ _).alloc (Nat.le_refl _) _
                replace src := src.new (o := .cells #[.int .i64 xP, .int .i64 xQ] 131)
                replace rk := rk.below kO
                replace gr := gr_new (o := .cells #[.int .i64 xP, .int .i64 xQ] 131) gr
                clear kO
                have hWW : W0 ≤ (uQ.alloc (.cells #[.int .i64 xP, .int .i64 xQ] 131)).heap.size := by have := gr.size; omega
                have hlen5 : (Ch.lkAt ls k).hs.length ≤ 100 := by have := HGL.out; omega
                obtain ⟨x', w5, hr5, sx5, ⟨row5, gr5, hrow5⟩, hnew5⟩ := sub_app (rk.hs k _ hp) hWW hlen5 xP xQ HN 127
                simp only at hr5 hrow5 hnew5
                obtain ⟨a5, n5, c5, rfl, _⟩ : ∃ a5 n5 c5, x' = .slice a5 n5 c5 ∧ True := by obtain ⟨a5, n5, c5, e, _⟩ := sx5; exact ⟨a5, n5, c5, e, trivial⟩
                refine M_tail (by kernel_rfl) (fun j hj => by simp at hj ⊢; omega) ?_
                clear hH
                have hH : True := trivial
                refine wpAnyH_ready (rs := [13]) (by kernel_rfl) (by simp) ?_
                refine AllReadyH.cons rfl (fun K hK => ?_) AllReadyH.nil
                refine step_run (.tmp 35) (.tmp 43) rfl rfl _ _ rfl rfl hr5 ?_
                refine hK.out _ _ trivial (fun hH => ?_)
                clear hK K
                simp only [Act.put, List.setIfInBounds_toArray, List.set_cons_zero, List.set_cons_succ]
                refine hTake (i := 14) (v := ?_) rfl (by kernel_rfl) (by kernel_rfl) (by kernel_rfl) (by rfl) ?_ hH ?_
                rotate_left
                · intro W hW; (try dsimp only at hW); go_simp <;> with_reducible rfl
                simp only [Act.put, List.setIfInBounds_toArray, List.set_cons_zero, List.set_cons_succ]
                refine hTake (i := 15) (v := ?_) rfl (by kernel_rfl) (by kernel_rfl) (by kernel_rfl) (by rfl) ?_ hH ?_
                rotate_left
                · intro W hW; (try dsimp only at hW); go_simp <;> with_reducible rfl
                simp only [Act.put, List.setIfInBounds_toArray, List.set_cons_zero, List.set_cons_succ]
                have hno : o ∉ rblk (.slice a5 n5 c5, .slice aq nq cq) := by
                  intro hm
                  simp only [rblk, List.mem_append] at hm
                  rcases hm with h | h
                  · rcases hnew5 o h with h | h
                    · exact HNP.out (by simp [rblk, h])
                    · have := (owns_lt rk.row o rfl).2; omega
                  · exact HNP.out (by simp [rblk, h])
                have hbd := rk.bend hp gr5 (fun g e => List.mem_append.2 (.inl (hrow5 g e))) ⟨(Ch.lkAt ls k).r, (Ch.lkAt ls k).hs ++ [⟨xP, xQ⟩], (Ch.lkAt ls k).qs⟩ (.slice a5 n5 c5, .slice aq nq cq) (cells_h hlv hp hkl (.slice a5 n5 c5) _) sx5 ((sub_grown (rk.qs k _ hp) gr5 (fun g e hg => rblk_two HND.out hp (hrow5 g e) hg)).r) hno
                have hrb : ∀ g, row5 = some g → W0 ≤ g := fun g e => (HPB.out g (List.mem_append.2 (.inl (hrow5 g e)))).1
                have hne5 : row5 ≠ some o := fun e => HNP.out (List.mem_append.2 (.inl (hrow5 o e)))
                have q1 := grown_cell gr5 (rk.cell hp).2.1 hne5
                simp only at q1
                have row6 := owns_grown rk.row gr5 (fun g hg e => by simp only [Value.ownBlock, Option.some.injEq] at hg; subst hg; exact hne5 e)
                have ff := row6.frozenAt (k * 3 + 1)
                have lq := lt_of_cell q1
                have src5 := src.grown gr5 (fun r e => by have := hrb r e; omega)
                have gr6 := gr_then gr gr5 (fun g e => by have := hrb g e; omega)
                refine wpAnyH_ready (rs := [16]) (by kernel_rfl) (by simp) ?_
                refine AllReadyH.cons rfl (fun K hK => ?_) AllReadyH.nil
                go_simp
                refine hK.out _ _ trivial (fun hH => ?_)
                clear hK K
                refine wpAnyH_done (by kernel_rfl) ?_ _
                refine NoPanic.normal ?_
                go_wp2
                go_ret
                refine ⟨_, m, c', _, d' + 4, rfl, hW0 ▸ (hbd.1.up (by simp [World.setCell])), ?_, by omega, src5.set (by omega), gr_set' gr6 (by omega), ?_⟩
                · have h1 := Ch.size_set ls k ⟨(Ch.lkAt ls k).r, (Ch.lkAt ls k).hs ++ [⟨xP, xQ⟩], (Ch.lkAt ls k).qs⟩
                  have h2 := HSZ.out
                  have h3 := HGL.out
                  simp only [List.length_append, List.length_cons, List.length_nil] at h1
                  omega
                · refine HFW.out.set k ?_
                  have h3 := HFK.out
                  simp only [List.length_append, List.length_cons, List.length_nil]
                  omega
    · go_simp
      refine hK.out _ _ (keep_cell ((Below.refl _ _).alloc (Nat.le_refl _) _) hH) (fun hH => ?_)
      clear hK K
      have ZB := heap_alloc_new U.drew (.cells #[.int .i64 1, .int .i64 5, .int .i64 6] 2)

      have nB : U.heap.size ≠ s := by omega
      have kO : Below U.drew.heap.size U.drew (U.drew.alloc (.cells #[.int .i64 1, .int .i64 5, .int .i64 6] 2)) := (Below.refl _ _).alloc (Nat.le_refl _) _
      replace src := src.new (o := .cells #[.int .i64 1, .int .i64 5, .int .i64 6] 2)
      replace rk := rk.below kO
      replace gr := gr_new (o := .cells #[.int .i64 1, .int .i64 5, .int .i64 6] 2) gr
      clear kO
      refine M_ready (rs := [6]) (by kernel_rfl) (by simp) ?_
      refine AllM.cons rfl (fun K hK => ?_) AllM.nil
      · go_simp
        refine hK.out _ _ (keep_cell ((Below.refl _ _).alloc (Nat.le_refl _) _) hH) (fun hH => ?_)
        clear hK K
        have ZA := heap_alloc_new (U.drew.alloc (.cells #[.int .i64 1, .int .i64 5, .int .i64 6] 2)) (.cells #[.int .i64 1, .int .i64 9, .int .i64 0] 2)
        rw [show (U.drew.alloc (.cells #[.int .i64 1, .int .i64 5, .int .i64 6] 2)).heap.size = U.heap.size + 1 by simp] at ZA
        have nA : U.heap.size + 1 ≠ s := by omega
        have kO : Below (U.drew.alloc (.cells #[.int .i64 1, .int .i64 5, .int .i64 6] 2)).heap.size (U.drew.alloc (.cells #[.int .i64 1, .int .i64 5, .int .i64 6] 2)) ((U.drew.alloc (.cells #[.int .i64 1, .int .i64 5, .int .i64 6] 2)).alloc (.cells #[.int .i64 1, .int .i64 9, .int .i64 0] 2)) := (Below.refl _ _).alloc (Nat.le_refl _) _
        replace src := src.new (o := .cells #[.int .i64 1, .int .i64 9, .int .i64 0] 2)
        replace rk := rk.below kO
        replace gr := gr_new (o := .cells #[.int .i64 1, .int .i64 9, .int .i64 0] 2) gr
        replace ZB := heap_below kO ZB
        clear kO
        refine M_ready (rs := [7]) (by kernel_rfl) (by simp) ?_
        refine AllM.cons rfl (fun K hK => ?_) AllM.nil
        · go_simp
          refine (pick_any (U.heap.size + 1) 3 [1, 9, 0] s a n cap (d' + 1 + 1) zs _ src HB.out hn (by omega) ZA nA rfl (by decide) (by decide)).mono ?_
          rintro e uP ⟨⟨xP, _, rfl⟩, sP, gP⟩
          replace rk := rk.drew gP lS0
          replace gr := gr_trans gr gP
          replace ZB := gr_heap gP ZB (fun e => nB (Option.some.inj e).symm)
          clear src
          have src := sP
          have hQ := grown_cell gP hH (fun e => by cases e; omega)
          have lsP := src.lt
          clear sP gP ZA nA
          go_wp2_with fail
          refine hK.out _ _ hQ (fun hH => ?_)
          clear hK K hQ
          refine M_ready (rs := [10]) (by kernel_rfl) (by simp) ?_
          refine AllM.cons rfl (fun K hK => ?_) AllM.nil
          · go_simp
            refine (pick_any (U.heap.size) 3 [1, 5, 6] s a n cap (d' + 1 + 1 + 1) zs _ src HB.out hn (by omega) ZB nB rfl (by decide) (by decide)).mono ?_
            rintro e uQ ⟨⟨xQ, _, rfl⟩, sQ, gQ⟩
            replace rk := rk.drew gQ lS0
            replace gr := gr_trans gr gQ
            clear src
            have src := sQ
            have hQ := grown_cell gQ hH (fun e => by cases e; omega)
            have lsQ := src.lt
            clear sQ gQ ZB nB
            go_wp2_with fail
            refine hK.out _ _ hQ (fun hH => ?_)
            clear hK K hQ
            refine M_ready (rs := [11]) (by kernel_rfl) (by simp) ?_
            refine AllM.cons rfl (fun K hK => ?_) AllM.nil
            · go_simp
              refine hK.out _ _ hH (fun hH => ?_)
              clear hK K
              refine M_ready (rs := [12]) (by kernel_rfl) (by simp) ?_
              refine AllM.cons rfl (fun K hK => ?_) AllM.nil
              · go_simp
                refine hK.out _ _ (keep_cell ((Below.refl _ _).alloc (Nat.le_refl _) _) hH) (fun hH => ?_)
                clear hK K
                have HN := new_hold uQ xP xQ 131
                have kO : Below uQ.heap.size uQ (uQ.alloc (.cells #[.int .i64 xP, .int .i64 xQ] 131)) := (Below.refl _ _).alloc (Nat.le_refl _) _
                replace src := src.new (o := .cells #[.int .i64 xP, .int .i64 xQ] 131)
                replace rk := rk.below kO
                replace gr := gr_new (o := .cells #[.int .i64 xP, .int .i64 xQ] 131) gr
                clear kO
                have hWW : W0 ≤ (uQ.alloc (.cells #[.int .i64 xP, .int .i64 xQ] 131)).heap.size := by have := gr.size; omega
                have hlen5 : (Ch.lkAt ls k).hs.length ≤ 100 := by have := HGL.out; omega
                obtain ⟨x', w5, hr5, sx5, ⟨row5, gr5, hrow5⟩, hnew5⟩ := sub_app (rk.hs k _ hp) hWW hlen5 xP xQ HN 127
                simp only at hr5 hrow5 hnew5
                obtain ⟨a5, n5, c5, rfl, _⟩ : ∃ a5 n5 c5, x' = .slice a5 n5 c5 ∧ True := by obtain ⟨a5, n5, c5, e, _⟩ := sx5; exact ⟨a5, n5, c5, e, trivial⟩
                refine M_tail (by kernel_rfl) (fun j hj => by simp at hj ⊢; omega) ?_
                clear hH
                have hH : True := trivial
                refine wpAnyH_ready (rs := [13]) (by kernel_rfl) (by simp) ?_
                refine AllReadyH.cons rfl (fun K hK => ?_) AllReadyH.nil
                refine step_run (.tmp 35) (.tmp 43) rfl rfl _ _ rfl rfl hr5 ?_
                refine hK.out _ _ trivial (fun hH => ?_)
                clear hK K
                simp only [Act.put, List.setIfInBounds_toArray, List.set_cons_zero, List.set_cons_succ]
                refine hTake (i := 14) (v := ?_) rfl (by kernel_rfl) (by kernel_rfl) (by kernel_rfl) (by rfl) ?_ hH ?_
                rotate_left
                · intro W hW; (try dsimp only at hW); go_simp <;> with_reducible rfl
                simp only [Act.put, List.setIfInBounds_toArray, List.set_cons_zero, List.set_cons_succ]
                refine hTake (i := 15) (v := ?_) rfl (by kernel_rfl) (by kernel_rfl) (by kernel_rfl) (by rfl) ?_ hH ?_
                rotate_left
                · intro W hW; (try dsimp only at hW); go_simp <;> with_reducible rfl
                simp only [Act.put, List.setIfInBounds_toArray, List.set_cons_zero, List.set_cons_succ]
                have hno : o ∉ rblk (.slice a5 n5 c5, .slice aq nq cq) := by
                  intro hm
                  simp only [rblk, List.mem_append] at hm
                  rcases hm with h | h
                  · rcases hnew5 o h with h | h
                    · exact HNP.out (by simp [rblk, h])
                    · have := (owns_lt rk.row o rfl).2; omega
                  · exact HNP.out (by simp [rblk, h])
                have hbd := rk.bend hp gr5 (fun g e => List.mem_append.2 (.inl (hrow5 g e))) ⟨(Ch.lkAt ls k).r, (Ch.lkAt ls k).hs ++ [⟨xP, xQ⟩], (Ch.lkAt ls k).qs⟩ (.slice a5 n5 c5, .slice aq nq cq) (cells_h hlv hp hkl (.slice a5 n5 c5) _) sx5 ((sub_grown (rk.qs k _ hp) gr5 (fun g e hg => rblk_two HND.out hp (hrow5 g e) hg)).r) hno
                have hrb : ∀ g, row5 = some g → W0 ≤ g := fun g e => (HPB.out g (List.mem_append.2 (.inl (hrow5 g e)))).1
                have hne5 : row5 ≠ some o := fun e => HNP.out (List.mem_append.2 (.inl (hrow5 o e)))
                have q1 := grown_cell gr5 (rk.cell hp).2.1 hne5
                simp only at q1
                have row6 := owns_grown rk.row gr5 (fun g hg e => by simp only [Value.ownBlock, Option.some.injEq] at hg; subst hg; exact hne5 e)
                have ff := row6.frozenAt (k * 3 + 1)
                have lq := lt_of_cell q1
                have src5 := src.grown gr5 (fun r e => by have := hrb r e; omega)
                have gr6 := gr_then gr gr5 (fun g e => by have := hrb g e; omega)
                refine wpAnyH_ready (rs := [16]) (by kernel_rfl) (by simp) ?_
                refine AllReadyH.cons rfl (fun K hK => ?_) AllReadyH.nil
                go_simp
                refine hK.out _ _ trivial (fun hH => ?_)
                clear hK K
                refine wpAnyH_done (by kernel_rfl) ?_ _
                refine NoPanic.normal ?_
                go_wp2
                go_ret
                refine ⟨_, m, c', _, d' + 4, rfl, hW0 ▸ (hbd.1.up (by simp [World.setCell])), ?_, by omega, src5.set (by omega), gr_set' gr6 (by omega), ?_⟩
                · have h1 := Ch.size_set ls k ⟨(Ch.lkAt ls k).r, (Ch.lkAt ls k).hs ++ [⟨xP, xQ⟩], (Ch.lkAt ls k).qs⟩
                  have h2 := HSZ.out
                  have h3 := HGL.out
                  simp only [List.length_append, List.length_cons, List.length_nil] at h1
                  omega
                · refine HFW.out.set k ?_
                  have h3 := HFK.out
                  simp only [List.length_append, List.length_cons, List.length_nil]
                  omega
  have b1 : (t == 1) = false := by simpa using h1
  clear h1
  by_cases h2 : t = 2
  · subst h2
    go_wp2_with fail
    refine wp_region_noPanic ?_
    refine region_M (S := fun W' => W'.cell? ⟨o, k * 3 + 2, none⟩ = some (.slice aq nq cq)) (F := fun j => j == 6 || j == 7 || j == 9 || j == 10 || j == 11 || j == 12) (by kernel_rfl) (r2) (fun hH => ?_)
    clear r0 r1 r2 f0 f1 f2
    have kD : Below U.heap.size U U.drew := (Below.refl _ _).drew
    have lsU := src.lt
    replace src : Src U.drew s a n cap (d' + 1 + 1) zs := src.drewN 1
    replace rk := rk.below kD
    replace gr := gr_on gr (kD.mono gr.size)
    clear kD
    refine mTake (i := 0) (v := ?_) rfl (by kernel_rfl) (by kernel_rfl) (by kernel_rfl) (by rfl) ?_ rfl ?_
    rotate_left
    · intro W; go_simp <;> with_reducible rfl
    simp only [Act.put, List.setIfInBounds_toArray, List.set_cons_zero, List.set_cons_succ]
    refine mTake (i := 1) (v := ?_) rfl (by kernel_rfl) (by kernel_rfl) (by kernel_rfl) (by rfl) ?_ rfl ?_
    rotate_left
    · intro W; go_simp <;> with_reducible rfl
    simp only [Act.put, List.setIfInBounds_toArray, List.set_cons_zero, List.set_cons_succ]
    refine mTake (i := 2) (v := ?_) rfl (by kernel_rfl) (by kernel_rfl) (by kernel_rfl) (by rfl) ?_ rfl ?_
    rotate_left
    · intro W; go_simp <;> with_reducible rfl
    simp only [Act.put, List.setIfInBounds_toArray, List.set_cons_zero, List.set_cons_succ]
    refine mTake (i := 3) (v := ?_) rfl (by kernel_rfl) (by kernel_rfl) (by kernel_rfl) (by rfl) ?_ rfl ?_
    rotate_left
    · intro W; go_simp <;> with_reducible rfl
    simp only [Act.put, List.setIfInBounds_toArray, List.set_cons_zero, List.set_cons_succ]
    refine mTake (i := 5) (v := ?_) rfl (by kernel_rfl) (by kernel_rfl) (by kernel_rfl) (by rfl) ?_ rfl ?_
    rotate_left
    · intro W; go_simp <;> with_reducible rfl
    simp only [Act.put, List.setIfInBounds_toArray, List.set_cons_zero, List.set_cons_succ]
    refine mTake (i := 8) (v := ?_) rfl (by kernel_rfl) (by kernel_rfl) (by kernel_rfl) (by rfl) ?_ rfl ?_
    rotate_left
    · intro W; go_simp <;> with_reducible rfl
    simp only [Act.put, List.setIfInBounds_toArray, List.set_cons_zero, List.set_cons_succ]
    refine mLoad (i := 4) (v := ?_) rfl (by kernel_rfl) (by kernel_rfl) (by kernel_rfl) (by rfl) ?_ hH (by kernel_rfl) ?_
    rotate_left
    · intro W hW; (try dsimp only at hW); go_simp <;> with_reducible rfl
    simp only [Act.put, List.setIfInBounds_toArray, List.set_cons_zero, List.set_cons_succ]
    refine M_ready (rs := [6, 9]) (by kernel_rfl) (by simp) ?_
    refine AllM.cons rfl (fun K hK => ?_) (AllM.cons rfl (fun K hK => ?_) AllM.nil)
    · go_simp
      refine hK.out _ _ (keep_cell ((Below.refl _ _).alloc (Nat.le_refl _) _) hH) (fun hH => ?_)
      clear hK K
      have ZA := heap_alloc_new U.drew (.cells #[.int .i64 1, .int .i64 9, .int .i64 0] 2)

      have nA : U.heap.size ≠ s := by omega
      have kO : Below U.drew.heap.size U.drew (U.drew.alloc (.cells #[.int .i64 1, .int .i64 9, .int .i64 0] 2)) := (Below.refl _ _).alloc (Nat.le_refl _) _
      replace src := src.new (o := .cells #[.int .i64 1, .int .i64 9, .int .i64 0] 2)
      replace rk := rk.below kO
      replace gr := gr_new (o := .cells #[.int .i64 1, .int .i64 9, .int .i64 0] 2) gr
      clear kO
      refine M_ready (rs := [7, 9]) (by kernel_rfl) (by simp) ?_
      refine AllM.cons rfl (fun K hK => ?_) (AllM.cons rfl (fun K hK => ?_) AllM.nil)
      · go_simp
        refine (pick_any (U.heap.size) 3 [1, 9, 0] s a n cap (d' + 1 + 1) zs _ src HB.out hn (by omega) ZA nA rfl (by decide) (by decide)).mono ?_
        rintro e uP ⟨⟨xP, _, rfl⟩, sP, gP⟩
        replace rk := rk.drew gP lS0
        replace gr := gr_trans gr gP
        clear src
        have src := sP
        have hQ := grown_cell gP hH (fun e => by cases e; omega)
        have lsP := src.lt
        clear sP gP ZA nA
        go_wp2_with fail
        refine hK.out _ _ hQ (fun hH => ?_)
        clear hK K hQ
        refine M_ready (rs := [9]) (by kernel_rfl) (by simp) ?_
        refine AllM.cons rfl (fun K hK => ?_) AllM.nil
        · go_simp
          refine hK.out _ _ (keep_cell ((Below.refl _ _).alloc (Nat.le_refl _) _) hH) (fun hH => ?_)
          clear hK K
          have ZB := heap_alloc_new uP (.cells #[.int .i64 1, .int .i64 5, .int .i64 0] 2)

          have nB : uP.heap.size ≠ s := by omega
          have kO : Below uP.heap.size uP (uP.alloc (.cells #[.int .i64 1, .int .i64 5, .int .i64 0] 2)) := (Below.refl _ _).alloc (Nat.le_refl _) _
          replace src := src.new (o := .cells #[.int .i64 1, .int .i64 5, .int .i64 0] 2)
          replace rk := rk.below kO
          replace gr := gr_new (o := .cells #[.int .i64 1, .int .i64 5, .int .i64 0] 2) gr
          clear kO
          refine M_ready (rs := [10]) (by kernel_rfl) (by simp) ?_
          refine AllM.cons rfl (fun K hK => ?_) AllM.nil
          · go_simp
            refine (pick_any (uP.heap.size) 3 [1, 5, 0] s a n cap (d' + 1 + 1 + 1) zs _ src HB.out hn (by omega) ZB nB rfl (by decide) (by decide)).mono ?_
            rintro e uQ ⟨⟨xQ, _, rfl⟩, sQ, gQ⟩
            replace rk := rk.drew gQ lS0
            replace gr := gr_trans gr gQ
            clear src
            have src := sQ
            have hQ := grown_cell gQ hH (fun e => by cases e; omega)
            have lsQ := src.lt
            clear sQ gQ ZB nB
            go_wp2_with fail
            refine hK.out _ _ hQ (fun hH => ?_)
            clear hK K hQ
            refine M_ready (rs := [11]) (by kernel_rfl) (by simp) ?_
            refine AllM.cons rfl (fun K hK => ?_) AllM.nil
            · go_simp
              refine hK.out _ _ hH (fun hH => ?_)
              clear hK K
              refine M_ready (rs := [12]) (by kernel_rfl) (by simp) ?_
              refine AllM.cons rfl (fun K hK => ?_) AllM.nil
              · go_simp
                refine hK.out _ _ (keep_cell ((Below.refl _ _).alloc (Nat.le_refl _) _) hH) (fun hH => ?_)
                clear hK K
                have HN := new_hold uQ xP xQ 131
                have kO : Below uQ.heap.size uQ (uQ.alloc (.cells #[.int .i64 xP, .int .i64 xQ] 131)) := (Below.refl _ _).alloc (Nat.le_refl _) _
                replace src := src.new (o := .cells #[.int .i64 xP, .int .i64 xQ] 131)
                replace rk := rk.below kO
                replace gr := gr_new (o := .cells #[.int .i64 xP, .int .i64 xQ] 131) gr
                clear kO
                have hWW : W0 ≤ (uQ.alloc (.cells #[.int .i64 xP, .int .i64 xQ] 131)).heap.size := by have := gr.size; omega
                have hlen5 : (Ch.lkAt ls k).qs.length ≤ 100 := by have := HGL.out; omega
                obtain ⟨x', w5, hr5, sx5, ⟨row5, gr5, hrow5⟩, hnew5⟩ := sub_app (rk.qs k _ hp) hWW hlen5 xP xQ HN 127
                simp only at hr5 hrow5 hnew5
                obtain ⟨a5, n5, c5, rfl, _⟩ : ∃ a5 n5 c5, x' = .slice a5 n5 c5 ∧ True := by obtain ⟨a5, n5, c5, e, _⟩ := sx5; exact ⟨a5, n5, c5, e, trivial⟩
                refine M_tail (by kernel_rfl) (fun j hj => by simp at hj ⊢; omega) ?_
                clear hH
                have hH : True := trivial
                refine wpAnyH_ready (rs := [13]) (by kernel_rfl) (by simp) ?_
                refine AllReadyH.cons rfl (fun K hK => ?_) AllReadyH.nil
                refine step_run (.tmp 53) (.tmp 61) rfl rfl _ _ rfl rfl hr5 ?_
                refine hK.out _ _ trivial (fun hH => ?_)
                clear hK K
                simp only [Act.put, List.setIfInBounds_toArray, List.set_cons_zero, List.set_cons_succ]
                refine hTake (i := 14) (v := ?_) rfl (by kernel_rfl) (by kernel_rfl) (by kernel_rfl) (by rfl) ?_ hH ?_
                rotate_left
                · intro W hW; (try dsimp only at hW); go_simp <;> with_reducible rfl
                simp only [Act.put, List.setIfInBounds_toArray, List.set_cons_zero, List.set_cons_succ]
                refine hTake (i := 15) (v := ?_) rfl (by kernel_rfl) (by kernel_rfl) (by kernel_rfl) (by rfl) ?_ hH ?_
                rotate_left
                · intro W hW; (try dsimp only at hW); go_simp <;> with_reducible rfl
                simp only [Act.put, List.setIfInBounds_toArray, List.set_cons_zero, List.set_cons_succ]
                have hno : o ∉ rblk (.slice ah nh ch, .slice a5 n5 c5) := by
                  intro hm
                  simp only [rblk, List.mem_append] at hm
                  rcases hm with h | h
                  · exact HNP.out (by simp [rblk, h])
                  · rcases hnew5 o h with h | h
                    · exact HNP.out (by simp [rblk, h])
                    · have := (owns_lt rk.row o rfl).2; omega
                have hbd := rk.bend hp gr5 (fun g e => List.mem_append.2 (.inr (hrow5 g e))) ⟨(Ch.lkAt ls k).r, (Ch.lkAt ls k).hs, (Ch.lkAt ls k).qs ++ [⟨xP, xQ⟩]⟩ (.slice ah nh ch, .slice a5 n5 c5) (cells_q hlv hp hkl (.slice a5 n5 c5) _) ((sub_grown (rk.hs k _ hp) gr5 (fun g e hg => rblk_two HND.out hp hg (hrow5 g e))).r) sx5 hno
                have hrb : ∀ g, row5 = some g → W0 ≤ g := fun g e => (HPB.out g (List.mem_append.2 (.inr (hrow5 g e)))).1
                have hne5 : row5 ≠ some o := fun e => HNP.out (List.mem_append.2 (.inr (hrow5 o e)))
                have q1 := grown_cell gr5 (rk.cell hp).2.2 hne5
                simp only at q1
                have row6 := owns_grown rk.row gr5 (fun g hg e => by simp only [Value.ownBlock, Option.some.injEq] at hg; subst hg; exact hne5 e)
                have ff := row6.frozenAt (k * 3 + 2)
                have lq := lt_of_cell q1
                have src5 := src.grown gr5 (fun r e => by have := hrb r e; omega)
                have gr6 := gr_then gr gr5 (fun g e => by have := hrb g e; omega)
                refine wpAnyH_ready (rs := [16]) (by kernel_rfl) (by simp) ?_
                refine AllReadyH.cons rfl (fun K hK => ?_) AllReadyH.nil
                go_simp
                refine hK.out _ _ trivial (fun hH => ?_)
                clear hK K
                refine wpAnyH_done (by kernel_rfl) ?_ _
                refine NoPanic.normal ?_
                go_wp2
                go_ret
                refine ⟨_, m, c', _, d' + 4, rfl, hW0 ▸ (hbd.1.up (by simp [World.setCell])), ?_, by omega, src5.set (by omega), gr_set' gr6 (by omega), ?_⟩
                · have h1 := Ch.size_set ls k ⟨(Ch.lkAt ls k).r, (Ch.lkAt ls k).hs, (Ch.lkAt ls k).qs ++ [⟨xP, xQ⟩]⟩
                  have h2 := HSZ.out
                  have h3 := HGL.out
                  simp only [List.length_append, List.length_cons, List.length_nil] at h1
                  omega
                · refine HFW.out.set k ?_
                  have h3 := HFK.out
                  simp only [List.length_append, List.length_cons, List.length_nil]
                  omega
      · go_simp
        refine hK.out _ _ (keep_cell ((Below.refl _ _).alloc (Nat.le_refl _) _) hH) (fun hH => ?_)
        clear hK K
        have ZB := heap_alloc_new (U.drew.alloc (.cells #[.int .i64 1, .int .i64 9, .int .i64 0] 2)) (.cells #[.int .i64 1, .int .i64 5, .int .i64 0] 2)
        rw [show (U.drew.alloc (.cells #[.int .i64 1, .int .i64 9, .int .i64 0] 2)).heap.size = U.heap.size + 1 by simp] at ZB
        have nB : U.heap.size + 1 ≠ s := by omega
        have kO : Below (U.drew.alloc (.cells #[.int .i64 1, .int .i64 9, .int .i64 0] 2)).heap.size (U.drew.alloc (.cells #[.int .i64 1, .int .i64 9, .int .i64 0] 2)) ((U.drew.alloc (.cells #[.int .i64 1, .int .i64 9, .int .i64 0] 2)).alloc (.cells #[.int .i64 1, .int .i64 5, .int .i64 0] 2)) := (Below.refl _ _).alloc (Nat.le_refl _) _
        replace src := src.new (o := .cells #[.int .i64 1, .int .i64 5, .int .i64 0] 2)
        replace rk := rk.below kO
        replace gr := gr_new (o := .cells #[.int .i64 1, .int .i64 5, .int .i64 0] 2) gr
        replace ZA := heap_below kO ZA
        clear kO
        refine M_ready (rs := [7]) (by kernel_rfl) (by simp) ?_
        refine AllM.cons rfl (fun K hK => ?_) AllM.nil
        · go_simp
          refine (pick_any (U.heap.size) 3 [1, 9, 0] s a n cap (d' + 1 + 1) zs _ src HB.out hn (by omega) ZA nA rfl (by decide) (by decide)).mono ?_
          rintro e uP ⟨⟨xP, _, rfl⟩, sP, gP⟩
          replace rk := rk.drew gP lS0
          replace gr := gr_trans gr gP
          replace ZB := gr_heap gP ZB (fun e => nB (Option.some.inj e).symm)
          clear src
          have src := sP
          have hQ := grown_cell gP hH (fun e => by cases e; omega)
          have lsP := src.lt
          clear sP gP ZA nA
          go_wp2_with fail
          refine hK.out _ _ hQ (fun hH => ?_)
          clear hK K hQ
          refine M_ready (rs := [10]) (by kernel_rfl) (by simp) ?_
          refine AllM.cons rfl (fun K hK => ?_) AllM.nil
          · go_simp
            refine (pick_any (U.heap.size + 1) 3 [1, 5, 0] s a n cap (d' + 1 + 1 + 1) zs _ src HB.out hn (by omega) ZB nB rfl (by decide) (by decide)).mono ?_
            rintro e uQ ⟨⟨xQ, _, rfl⟩, sQ, gQ⟩
            replace rk := rk.drew gQ lS0
            replace gr := gr_trans gr gQ
            clear src
            have src := sQ
            have hQ := grown_cell gQ hH (fun e => by cases e; omega)
            have lsQ := src.lt
            clear sQ gQ ZB nB
            go_wp2_with fail
            refine hK.out _ _ hQ (fun hH => ?_)
            clear hK K hQ
            refine M_ready (rs := [11]) (by kernel_rfl) (by simp) ?_
            refine AllM.cons rfl (fun K hK => ?_) AllM.nil
            · go_simp
              refine hK.out _ _ hH (fun hH => ?_)
              clear hK K
              refine M_ready (rs := [12]) (by kernel_rfl) (by simp) ?_
              refine AllM.cons rfl (fun K hK => ?_) AllM.nil
              · go_simp
                refine hK.out _ _ (keep_cell ((Below.refl _ _).alloc (Nat.le_refl _) _) hH) (fun hH => ?_)
                clear hK K
                have HN := new_hold uQ xP xQ 131
                have kO : Below uQ.heap.size uQ (uQ.alloc (.cells #[.int .i64 xP, .int .i64 xQ] 131)) := (Below.refl _ _).alloc (Nat.le_refl _) _
                replace src := src.new (o := .cells #[.int .i64 xP, .int .i64 xQ] 131)
                replace rk := rk.below kO
                replace gr := gr_new (o := .cells #[.int .i64 xP, .int .i64 xQ] 131) gr
                clear kO
                have hWW : W0 ≤ (uQ.alloc (.cells #[.int .i64 xP, .int .i64 xQ] 131)).heap.size := by have := gr.size; omega
                have hlen5 : (Ch.lkAt ls k).qs.length ≤ 100 := by have := HGL.out; omega
                obtain ⟨x', w5, hr5, sx5, ⟨row5, gr5, hrow5⟩, hnew5⟩ := sub_app (rk.qs k _ hp) hWW hlen5 xP xQ HN 127
                simp only at hr5 hrow5 hnew5
                obtain ⟨a5, n5, c5, rfl, _⟩ : ∃ a5 n5 c5, x' = .slice a5 n5 c5 ∧ True := by obtain ⟨a5, n5, c5, e, _⟩ := sx5; exact ⟨a5, n5, c5, e, trivial⟩
                refine M_tail (by kernel_rfl) (fun j hj => by simp at hj ⊢; omega) ?_
                clear hH
                have hH : True := trivial
                refine wpAnyH_ready (rs := [13]) (by kernel_rfl) (by simp) ?_
                refine AllReadyH.cons rfl (fun K hK => ?_) AllReadyH.nil
                refine step_run (.tmp 53) (.tmp 61) rfl rfl _ _ rfl rfl hr5 ?_
                refine hK.out _ _ trivial (fun hH => ?_)
                clear hK K
                simp only [Act.put, List.setIfInBounds_toArray, List.set_cons_zero, List.set_cons_succ]
                refine hTake (i := 14) (v := ?_) rfl (by kernel_rfl) (by kernel_rfl) (by kernel_rfl) (by rfl) ?_ hH ?_
                rotate_left
                · intro W hW; (try dsimp only at hW); go_simp <;> with_reducible rfl
                simp only [Act.put, List.setIfInBounds_toArray, List.set_cons_zero, List.set_cons_succ]
                refine hTake (i := 15) (v := ?_) rfl (by kernel_rfl) (by kernel_rfl) (by kernel_rfl) (by rfl) ?_ hH ?_
                rotate_left
                · intro W hW; (try dsimp only at hW); go_simp <;> with_reducible rfl
                simp only [Act.put, List.setIfInBounds_toArray, List.set_cons_zero, List.set_cons_succ]
                have hno : o ∉ rblk (.slice ah nh ch, .slice a5 n5 c5) := by
                  intro hm
                  simp only [rblk, List.mem_append] at hm
                  rcases hm with h | h
                  · exact HNP.out (by simp [rblk, h])
                  · rcases hnew5 o h with h | h
                    · exact HNP.out (by simp [rblk, h])
                    · have := (owns_lt rk.row o rfl).2; omega
                have hbd := rk.bend hp gr5 (fun g e => List.mem_append.2 (.inr (hrow5 g e))) ⟨(Ch.lkAt ls k).r, (Ch.lkAt ls k).hs, (Ch.lkAt ls k).qs ++ [⟨xP, xQ⟩]⟩ (.slice ah nh ch, .slice a5 n5 c5) (cells_q hlv hp hkl (.slice a5 n5 c5) _) ((sub_grown (rk.hs k _ hp) gr5 (fun g e hg => rblk_two HND.out hp hg (hrow5 g e))).r) sx5 hno
                have hrb : ∀ g, row5 = some g → W0 ≤ g := fun g e => (HPB.out g (List.mem_append.2 (.inr (hrow5 g e)))).1
                have hne5 : row5 ≠ some o := fun e => HNP.out (List.mem_append.2 (.inr (hrow5 o e)))
                have q1 := grown_cell gr5 (rk.cell hp).2.2 hne5
                simp only at q1
                have row6 := owns_grown rk.row gr5 (fun g hg e => by simp only [Value.ownBlock, Option.some.injEq] at hg; subst hg; exact hne5 e)
                have ff := row6.frozenAt (k * 3 + 2)
                have lq := lt_of_cell q1
                have src5 := src.grown gr5 (fun r e => by have := hrb r e; omega)
                have gr6 := gr_then gr gr5 (fun g e => by have := hrb g e; omega)
                refine wpAnyH_ready (rs := [16]) (by kernel_rfl) (by simp) ?_
                refine AllReadyH.cons rfl (fun K hK => ?_) AllReadyH.nil
                go_simp
                refine hK.out _ _ trivial (fun hH => ?_)
                clear hK K
                refine wpAnyH_done (by kernel_rfl) ?_ _
                refine NoPanic.normal ?_
                go_wp2
                go_ret
                refine ⟨_, m, c', _, d' + 4, rfl, hW0 ▸ (hbd.1.up (by simp [World.setCell])), ?_, by omega, src5.set (by omega), gr_set' gr6 (by omega), ?_⟩
                · have h1 := Ch.size_set ls k ⟨(Ch.lkAt ls k).r, (Ch.lkAt ls k).hs, (Ch.lkAt ls k).qs ++ [⟨xP, xQ⟩]⟩
                  have h2 := HSZ.out
                  have h3 := HGL.out
                  simp only [List.length_append, List.length_cons, List.length_nil] at h1
                  omega
                · refine HFW.out.set k ?_
                  have h3 := HFK.out
                  simp only [List.length_append, List.length_cons, List.length_nil]
                  omega
    · go_simp
      refine hK.out _ _ (keep_cell ((Below.refl _ _).alloc (Nat.le_refl _) _) hH) (fun hH => ?_)
      clear hK K
      have ZB := heap_alloc_new U.drew (.cells #[.int .i64 1, .int .i64 5, .int .i64 0] 2)

      have nB : U.heap.size ≠ s := by omega
      have kO : Below U.drew.heap.size U.drew (U.drew.alloc (.cells #[.int .i64 1, .int .i64 5, .int .i64 0] 2)) := (Below.refl _ _).alloc (Nat.le_refl _) _
      replace src := src.new (o := .cells #[.int .i64 1, .int .i64 5, .int .i64 0] 2)
      replace rk := rk.below kO
      replace gr := gr_new (o := .cells #[.int .i64 1, .int .i64 5, .int .i64 0] 2) gr
      clear kO
      refine M_ready (rs := [6]) (by kernel_rfl) (by simp) ?_
      refine AllM.cons rfl (fun K hK => ?_) AllM.nil
      · go_simp
        refine hK.out _ _ (keep_cell ((Below.refl _ _).alloc (Nat.le_refl _) _) hH) (fun hH => ?_)
        clear hK K
        have ZA := heap_alloc_new (U.drew.alloc (.cells #[.int .i64 1, .int .i64 5, .int .i64 0] 2)) (.cells #[.int .i64 1, .int .i64 9, .int .i64 0] 2)
        rw [show (U.drew.alloc (.cells #[.int .i64 1, .int .i64 5, .int .i64 0] 2)).heap.size = U.heap.size + 1 by simp] at ZA
        have nA : U.heap.size + 1 ≠ s := by omega
        have kO : Below (U.drew.alloc (.cells #[.int .i64 1, .int .i64 5, .int .i64 0] 2)).heap.size (U.drew.alloc (.cells #[.int .i64 1, .int .i64 5, .int .i64 0] 2)) ((U.drew.alloc (.cells #[.int .i64 1, .int .i64 5, .int .i64 0] 2)).alloc (.cells #[.int .i64 1, .int .i64 9, .int .i64 0] 2)) := (Below.refl _ _).alloc (Nat.le_refl _) _
        replace src := src.new (o := .cells #[.int .i64 1, .int .i64 9, .int .i64 0] 2)
        replace rk := rk.below kO
        replace gr := gr_new (o := .cells #[.int .i64 1, .int .i64 9, .int .i64 0] 2) gr
        replace ZB := heap_below kO ZB
        clear kO
        refine M_ready (rs := [7]) (by kernel_rfl) (by simp) ?_
        refine AllM.cons rfl (fun K hK => ?_) AllM.nil
        · go_simp
          refine (pick_any (U.heap.size + 1) 3 [1, 9, 0] s a n cap (d' + 1 + 1) zs _ src HB.out hn (by omega) ZA nA rfl (by decide) (by decide)).mono ?_
          rintro e uP ⟨⟨xP, _, rfl⟩, sP, gP⟩
          replace rk := rk.drew gP lS0
          replace gr := gr_trans gr gP
          replace ZB := gr_heap gP ZB (fun e => nB (Option.some.inj e).symm)
          clear src
          have src := sP
          have hQ := grown_cell gP hH (fun e => by cases e; omega)
          have lsP := src.lt
          clear sP gP ZA nA
          go_wp2_with fail
          refine hK.out _ _ hQ (fun hH => ?_)
          clear hK K hQ
          refine M_ready (rs := [10]) (by kernel_rfl) (by simp) ?_
          refine AllM.cons rfl (fun K hK => ?_) AllM.nil
          · go_simp
            refine (pick_any (U.heap.size) 3 [1, 5, 0] s a n cap (d' + 1 + 1 + 1) zs _ src HB.out hn (by omega) ZB nB rfl (by decide) (by decide)).mono ?_
            rintro e uQ ⟨⟨xQ, _, rfl⟩, sQ, gQ⟩
            replace rk := rk.drew gQ lS0
            replace gr := gr_trans gr gQ
            clear src
            have src := sQ
            have hQ := grown_cell gQ hH (fun e => by cases e; omega)
            have lsQ := src.lt
            clear sQ gQ ZB nB
            go_wp2_with fail
            refine hK.out _ _ hQ (fun hH => ?_)
            clear hK K hQ
            refine M_ready (rs := [11]) (by kernel_rfl) (by simp) ?_
            refine AllM.cons rfl (fun K hK => ?_) AllM.nil
            · go_simp
              refine hK.out _ _ hH (fun hH => ?_)
              clear hK K
              refine M_ready (rs := [12]) (by kernel_rfl) (by simp) ?_
              refine AllM.cons rfl (fun K hK => ?_) AllM.nil
              · go_simp
                refine hK.out _ _ (keep_cell ((Below.refl _ _).alloc (Nat.le_refl _) _) hH) (fun hH => ?_)
                clear hK K
                have HN := new_hold uQ xP xQ 131
                have kO : Below uQ.heap.size uQ (uQ.alloc (.cells #[.int .i64 xP, .int .i64 xQ] 131)) := (Below.refl _ _).alloc (Nat.le_refl _) _
                replace src := src.new (o := .cells #[.int .i64 xP, .int .i64 xQ] 131)
                replace rk := rk.below kO
                replace gr := gr_new (o := .cells #[.int .i64 xP, .int .i64 xQ] 131) gr
                clear kO
                have hWW : W0 ≤ (uQ.alloc (.cells #[.int .i64 xP, .int .i64 xQ] 131)).heap.size := by have := gr.size; omega
                have hlen5 : (Ch.lkAt ls k).qs.length ≤ 100 := by have := HGL.out; omega
                obtain ⟨x', w5, hr5, sx5, ⟨row5, gr5, hrow5⟩, hnew5⟩ := sub_app (rk.qs k _ hp) hWW hlen5 xP xQ HN 127
                simp only at hr5 hrow5 hnew5
                obtain ⟨a5, n5, c5, rfl, _⟩ : ∃ a5 n5 c5, x' = .slice a5 n5 c5 ∧ True := by obtain ⟨a5, n5, c5, e, _⟩ := sx5; exact ⟨a5, n5, c5, e, trivial⟩
                refine M_tail (by kernel_rfl) (fun j hj => by simp at hj ⊢; omega) ?_
                clear hH
                have hH : True := trivial
                refine wpAnyH_ready (rs := [13]) (by kernel_rfl) (by simp) ?_
                refine AllReadyH.cons rfl (fun K hK => ?_) AllReadyH.nil
                refine step_run (.tmp 53) (.tmp 61) rfl rfl _ _ rfl rfl hr5 ?_
                refine hK.out _ _ trivial (fun hH => ?_)
                clear hK K
                simp only [Act.put, List.setIfInBounds_toArray, List.set_cons_zero, List.set_cons_succ]
                refine hTake (i := 14) (v := ?_) rfl (by kernel_rfl) (by kernel_rfl) (by kernel_rfl) (by rfl) ?_ hH ?_
                rotate_left
                · intro W hW; (try dsimp only at hW); go_simp <;> with_reducible rfl
                simp only [Act.put, List.setIfInBounds_toArray, List.set_cons_zero, List.set_cons_succ]
                refine hTake (i := 15) (v := ?_) rfl (by kernel_rfl) (by kernel_rfl) (by kernel_rfl) (by rfl) ?_ hH ?_
                rotate_left
                · intro W hW; (try dsimp only at hW); go_simp <;> with_reducible rfl
                simp only [Act.put, List.setIfInBounds_toArray, List.set_cons_zero, List.set_cons_succ]
                have hno : o ∉ rblk (.slice ah nh ch, .slice a5 n5 c5) := by
                  intro hm
                  simp only [rblk, List.mem_append] at hm
                  rcases hm with h | h
                  · exact HNP.out (by simp [rblk, h])
                  · rcases hnew5 o h with h | h
                    · exact HNP.out (by simp [rblk, h])
                    · have := (owns_lt rk.row o rfl).2; omega
                have hbd := rk.bend hp gr5 (fun g e => List.mem_append.2 (.inr (hrow5 g e))) ⟨(Ch.lkAt ls k).r, (Ch.lkAt ls k).hs, (Ch.lkAt ls k).qs ++ [⟨xP, xQ⟩]⟩ (.slice ah nh ch, .slice a5 n5 c5) (cells_q hlv hp hkl (.slice a5 n5 c5) _) ((sub_grown (rk.hs k _ hp) gr5 (fun g e hg => rblk_two HND.out hp hg (hrow5 g e))).r) sx5 hno
                have hrb : ∀ g, row5 = some g → W0 ≤ g := fun g e => (HPB.out g (List.mem_append.2 (.inr (hrow5 g e)))).1
                have hne5 : row5 ≠ some o := fun e => HNP.out (List.mem_append.2 (.inr (hrow5 o e)))
                have q1 := grown_cell gr5 (rk.cell hp).2.2 hne5
                simp only at q1
                have row6 := owns_grown rk.row gr5 (fun g hg e => by simp only [Value.ownBlock, Option.some.injEq] at hg; subst hg; exact hne5 e)
                have ff := row6.frozenAt (k * 3 + 2)
                have lq := lt_of_cell q1
                have src5 := src.grown gr5 (fun r e => by have := hrb r e; omega)
                have gr6 := gr_then gr gr5 (fun g e => by have := hrb g e; omega)
                refine wpAnyH_ready (rs := [16]) (by kernel_rfl) (by simp) ?_
                refine AllReadyH.cons rfl (fun K hK => ?_) AllReadyH.nil
                go_simp
                refine hK.out _ _ trivial (fun hH => ?_)
                clear hK K
                refine wpAnyH_done (by kernel_rfl) ?_ _
                refine NoPanic.normal ?_
                go_wp2
                go_ret
                refine ⟨_, m, c', _, d' + 4, rfl, hW0 ▸ (hbd.1.up (by simp [World.setCell])), ?_, by omega, src5.set (by omega), gr_set' gr6 (by omega), ?_⟩
                · have h1 := Ch.size_set ls k ⟨(Ch.lkAt ls k).r, (Ch.lkAt ls k).hs, (Ch.lkAt ls k).qs ++ [⟨xP, xQ⟩]⟩
                  have h2 := HSZ.out
                  have h3 := HGL.out
                  simp only [List.length_append, List.length_cons, List.length_nil] at h1
                  omega
                · refine HFW.out.set k ?_
                  have h3 := HFK.out
                  simp only [List.length_append, List.length_cons, List.length_nil]
                  omega
  have b2 : (t == 2) = false := by simpa using h2
  clear h2
  by_cases h3 : t = 3
  · subst h3
    have hno : o ∉ rblk (.slice none 0 0, .slice aq nq cq) := by
      intro hm
      refine HNP.out ?_
      simp only [rblk, List.mem_append] at hm ⊢
      rcases hm with h | h
      · simp [aBlk] at h
      · exact .inr h
    have hbd := rk.bend hp (row := none) ⟨rfl, rfl, rfl, Nat.le_refl _, fun _ _ _ => rfl⟩ (fun g e => by cases e) ⟨(Ch.lkAt ls k).r, [], (Ch.lkAt ls k).qs⟩ (.slice none 0 0, .slice aq nq cq) (cells_h hlv hp hkl (.slice none 0 0) []) (subR_nil _ _) (rk.qs k _ hp).r hno
    go_wp2
    go_ret
    refine ⟨_, m, c', _, d' + 2, rfl, hW0 ▸ (hbd.1.up (by simp [World.setCell])), ?_, by omega, src.set (by omega), gr_set' gr (by omega), ?_⟩
    · have h1 := Ch.size_set ls k ⟨(Ch.lkAt ls k).r, [], (Ch.lkAt ls k).qs⟩
      have h2 := HSZ.out
      have h3 := HGL.out
      simp only [List.length_append, List.length_cons, List.length_nil] at h1
      omega
    · refine HFW.out.set k ?_
      have h3 := HFK.out
      simp only [List.length_append, List.length_cons, List.length_nil]
      omega
  have b3 : (t == 3) = false := by simpa using h3
  clear h3
  by_cases h4 : t = 4
  · subst h4
    have hno : o ∉ rblk (.slice ah nh ch, .slice none 0 0) := by
      intro hm
      refine HNP.out ?_
      simp only [rblk, List.mem_append] at hm ⊢
      rcases hm with h | h
      · exact .inl h
      · simp [aBlk] at h
    have hbd := rk.bend hp (row := none) ⟨rfl, rfl, rfl, Nat.le_refl _, fun _ _ _ => rfl⟩ (fun g e => by cases e) ⟨(Ch.lkAt ls k).r, (Ch.lkAt ls k).hs, []⟩ (.slice ah nh ch, .slice none 0 0) (cells_q hlv hp hkl (.slice none 0 0) []) (rk.hs k _ hp).r (subR_nil _ _) hno
    go_wp2
    go_ret
    refine ⟨_, m, c', _, d' + 2, rfl, hW0 ▸ (hbd.1.up (by simp [World.setCell])), ?_, by omega, src.set (by omega), gr_set' gr (by omega), ?_⟩
    · have h1 := Ch.size_set ls k ⟨(Ch.lkAt ls k).r, (Ch.lkAt ls k).hs, []⟩
      have h2 := HSZ.out
      have h3 := HGL.out
      simp only [List.length_append, List.length_cons, List.length_nil] at h1
      omega
    · refine HFW.out.set k ?_
      have h3 := HFK.out
      simp only [List.length_append, List.length_cons, List.length_nil]
      omega
  have b4 : (t == 4) = false := by simpa using h4
  clear h4
  go_wp2
  go_ret
  exact ⟨_, m, c', ls, d' + 2, rfl, hW0 ▸ rk.lkIn, by have := HSZ.out; omega, by omega, src, gr, HFW.out.more⟩
end Go.Proofs.Ytjagobcogkdfhaa


/- The draw of EdgesOf. -/
namespace Go.Proofs.Ytjagobcogkdfhaa
open Go.RowKit

def EdgesDrawn (w : World) (e : Ending) (w' : World) : Prop := ∃ a' m c' ls, e = .returned (.slice a' m c') ∧ LkAt w' a' m ls ∧ Ch.lkSize ls ≤ 6000 ∧ Ch.Few 17 ls ∧ Below w.heap.size w w'

set_option maxHeartbeats 2000000 in
theorem drawEdges_any (a : Option Addr) (n cap : Nat) (zs : List Int) (w : World) (h : CellsAt w a n (bts zs)) (hb : IsB zs) (hn : n ≤ 1048580) :
    Calls Try.prog 24 #[.slice a n cap] w fun e w' => EdgesDrawn w e w' := by
  have HB := hid hb
  clear hb
  go_enter Try.func24, Try.ntmps24
  go_wp2_with fail
  refine (source_any a n cap zs w h).mono ?_
  rintro e w1 ⟨rfl, s1, b1⟩
  obtain ⟨S, hS⟩ : ∃ S, w.heap.size = S := ⟨_, rfl⟩
  rw [hS] at s1 b1
  have ls1 := s1.lt
  go_wp2_with fail
  refine (l6Bent_any S a n cap 0 zs _ s1 HB.out hn (by omega)).mono ?_
  rintro e w2 ⟨a', m, c', ls, d, rfl, lk, hsz, hd, s2, g2, hf⟩
  go_wp2
  go_ret
  refine ⟨a', m, c', ls, rfl, lk.at, hsz, hf, ?_⟩
  rw [hS]
  exact b1.grown g2 (by omega) (fun j hj => by cases hj; exact Nat.le_refl _)
end Go.Proofs.Ytjagobcogkdfhaa

