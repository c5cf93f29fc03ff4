
/- HasCycle of the program. -/
import Derived.Test.YtmolddlmjojceaaCyI
namespace Go.Proofs.Ytmolddlmjojceaa
open Go.RowKit Go.Maps

theorem Ch.any_sort (es : List Ch.Hold) (f : Ch.Hold → Bool) : (Ch.sortE es).any f = es.any f := by
  rw [Bool.eq_iff_iff, List.any_eq_true, List.any_eq_true]
  exact ⟨fun ⟨x, h1, h2⟩ => ⟨x, Ch.sortE_mem.1 h1, h2⟩, fun ⟨x, h1, h2⟩ => ⟨x, Ch.sortE_mem.2 h1, h2⟩⟩

set_option linter.unusedSimpArgs false in
set_option maxRecDepth 20000 in
set_option maxHeartbeats 4000000 in
theorem implHas_any (a : Option Addr) (n cap : Nat) (es : List Ch.Hold) (w : World) (h : CellsAt w a (n * 2) (hcells es)) (hn : n ≤ 1048576) :
    Calls Try.prog 8 #[.slice a n cap] w fun e w' => e = .returned (.bool (Ch.hasR es)) ∧ Below w.heap.size w w' := by
  have IF := edgesFault_any a n cap es w h hn
  have HL := h.hlen
  have HR : Hid (Ch.hasR es = (Ch.edgesFault es == 0 && es.any (Ch.hasC es))) := rfl
  obtain ⟨c, hc⟩ : ∃ c, Hid (Ch.edgesFault es = c) := ⟨_, rfl⟩
  rw [hc.out] at IF HR
  by_cases h0 : c = 0
  · subst h0
    have HR2 : Hid (Ch.hasR es = es.any (Ch.hasC es)) := by show _ = _; rw [HR.out]; rfl
    rw [HR2.out]
    obtain ⟨hl4, hrg, hsf⟩ := Ch.edges_are hc.out
    have hn4 : n ≤ 400 := by have := HL.out; omega
    have HRG := hid hrg
    have SO := fun W hW => setOf_any a n cap es W hW hn4 hrg
    have ST := fun W b q D own mp hq => sorted_any b q D es W own mp hrg hq
    have CF := fun (W : World) (a2 : Option Addr) (n2 cap2 : Nat) (hW : CellsAt W a2 (n2 * 2) (hcells (Ch.sortE es))) (hc2 : n2 ≤ cap2) (x : Int) (hx : 1 ≤ x ∧ x ≤ 999) => circleFrom_any a2 n2 cap2 (Ch.sortE es) es (fun e => Ch.sortE_mem) x W hW (by have h1 := hW.hlen.out; have h2 := Ch.sortE_lenC es; omega) hc2 (Ch.sortE_sort es) (fun e he => hrg e (Ch.sortE_mem.1 he)) (fun e he => hsf e (Ch.sortE_mem.1 he)) hx
    clear hl4 hrg hsf hc HR HR2
    go_enter Try.func8, Try.ntmps8
    go_wp2_with fail
    refine IF.mono ?_
    rintro e w1 ⟨rfl, b1⟩
    clear IF
    go_wp2_with fail
    refine (SO _ (h.below b1)).mono ?_
    rintro e w2 ⟨D, rfl, own2, mp2, hlt2, b2⟩
    have hq2 : Maps.size D ≤ 1048576 := by have := own2.size_le; omega
    clear SO
    go_wp2_with fail
    refine (ST _ _ _ _ own2 mp2 hq2).mono ?_
    rintro e w3 ⟨a3, n3, c3, rfl, hn3, own3, b3⟩
    have hcp : n3 ≤ c3 := by
      rcases own3.2 with ⟨hv, h0⟩ | ⟨g, cp, cur, hv, _, _, h1, _⟩
      · omega
      · cases hv; exact h1
    have b13 := b2.trans (b3.mono b2.size)
    have bE := b1.trans (b13.mono b1.size)
    have h3 := owns_cells own3
    have HL3 := h3.hlen
    clear ST own2 mp2 b2 b3 own3 b13 HL h
    go_wp2_with fail
    go_loopw [14] (fun i wr => ∃ k : Nat, k ≤ n3 ∧ i = .int .i64 k ∧ Hid (((Ch.sortE es).take k).any (Ch.hasC es) = false) ∧ Below w3.heap.size w3 wr) (fun i _ => n3 - (intOf i).toNat)
    case atStart => exact ⟨0, Nat.zero_le _, rfl, rfl, Below.refl _ _⟩
    case round =>
      obtain ⟨k, hk, rfl, HA, hB⟩ := hrel
      by_cases hlt : k < n3
      · have hkl : k < (Ch.sortE es).length := by have := HL3.out; omega
        have HT := hid (Ch.anyC_snoc (Ch.sortE es) Ch.Hold.zero (Ch.hasC es) k hkl)
        rw [HA.out, Bool.false_or] at HT
        have hmem : (Ch.sortE es).getD k Ch.Hold.zero ∈ es := Ch.sortE_mem.1 (by simp [List.getD, hkl])
        have HO : Hid (∀ b, Ch.hasC es ((Ch.sortE es).getD k Ch.Hold.zero) = b → b = true → es.any (Ch.hasC es) = true) := by
          intro b hb h1
          rw [h1] at hb
          exact List.any_eq_true.2 ⟨_, hmem, hb⟩
        have hx := (HRG.out _ hmem).1
        have IC := fun W hW => CF W a3 n3 c3 hW hcp _ hx
        have HC : Hid (Ch.hasC es ((Ch.sortE es).getD k Ch.Hold.zero) = decide (0 < (Ch.cycM (Ch.prE es) ((Ch.sortE es).getD k Ch.Hold.zero).t).length)) := rfl
        rw [HC.out] at HT HO
        have hcw : CellsAt wr a3 (n3 * 2) (hcells (Ch.sortE es)) := h3.below hB
        obtain ⟨b, off, ha3, q0, q1⟩ := hcw.hold hlt
        have hbl := lt_of_cell q0
        clear hx HC HA hmem CF hcw
        generalize (Ch.sortE es).getD k Ch.Hold.zero = ed at *
        obtain ⟨rt, rm⟩ := ed
        simp only at q0 q1 HT HO IC
        generalize Ch.cycM (Ch.prE es) rt = cy at *
        have kE : Below wr.heap.size wr (wr.alloc (.cells #[.int .i64 rt, .int .i64 rm] 33)) := (Below.refl _ _).alloc (Nat.le_refl _) _
        have hBE := hB.trans (kE.mono hB.size)
        subst ha3
        go_wp2_with fail
        refine (IC _ (h3.below hBE)).mono ?_
        rintro e w4 ⟨a', m, c2, rfl, hm, own, b4⟩
        have b4' := hBE.trans (b4.mono hBE.size)
        have hml : m = cy.length := by have := own.1; rw [icells_len] at this; omega
        rw [← hml] at HT HO
        clear hml IC b4 own q0 q1 kE hBE
        by_cases hm0 : m = 0
        · subst hm0
          go_wp2
          go_roundw
          case rel => exact ⟨k + 1, by omega, by go_num, HT.out, b4'⟩
          case measure => simp [intOf]; omega
        · have hp : 0 < m := by omega
          have HY := hid (HO.out _ rfl (by simpa using hp))
          clear HT HO
          go_wp2
          go_ret
          exact ⟨by rw [HY.out]; rfl, bE.trans (b4'.mono bE.size)⟩
      · obtain rfl : k = n3 := by omega
        have HY : Hid (es.any (Ch.hasC es) = false) := by
          have := HA.out
          rw [List.take_of_length_le (by have := HL3.out; omega), Ch.any_sort] at this
          exact this
        go_wp2
        go_ret
        exact ⟨by rw [HY.out]; rfl, bE.trans (hB.mono bE.size)⟩
  · have hcb : (c != 0) = true := by simpa using h0
    have HR2 : Hid (Ch.hasR es = false) := by show _ = _; rw [HR.out]; simp [h0]
    rw [HR2.out]
    clear HR HR2 hc
    go_enter Try.func8, Try.ntmps8
    go_wp2_with fail
    refine IF.mono ?_
    rintro e w1 ⟨rfl, b1⟩
    go_wp2
    go_ret
    exact ⟨rfl, b1⟩
end Go.Proofs.Ytmolddlmjojceaa
