/- Walks of PackPage: of the model. -/
import Derived.Test.YthkbaabfhbjbgaaPageW
import Derived.Test.YthkbaabfhbjbgaaByteW
import Derived.Deep.RegionHeld3
import Derived.Deep.AppendLies
namespace Go.Proofs.Ythkbaabfhbjbgaa
open Go.RowKit

/-- Two bytes, the higher one first, as the model makes them. -/
theorem two_any (v : Int) (w : World) (h0 : 0 ≤ v) (h1 : v < 65536) :
    Calls Try.prog 56 #[.int .i64 v] w fun e w' => e = .returned (.slice (some ⟨w.heap.size, 0, none⟩) 2 2) ∧ w' = w.alloc (.cells #[.int .u8 (v / 256), .int .u8 (v % 256)] 5) := by
  go_enter Try.func56, Try.ntmps56
  go_wp2
  go_ret
  exact ⟨rfl, rfl⟩



/-- What an append of bytes does to the world: the row g became the row g'; below B, and in every other block, all is as it was. -/
structure Grew (B : Nat) (w w' : World) (g g' : Nat) : Prop where
  below : Below B w w'
  size : w.heap.size ≤ w'.heap.size
  here : g' = g ∨ g' = w.heap.size
  lt : g' < w'.heap.size
  blk : ∀ h, h < w.heap.size → h ≠ g → w'.heap[h]? = w.heap[h]?

theorem Grew.cell {B : Nat} {w w' : World} {g g' b o : Nat} (h : Grew B w w' g g') (hb : b < B) : w'.cell? ⟨b, o, none⟩ = w.cell? ⟨b, o, none⟩ := h.below.cell (p := ⟨b, o, none⟩) hb

theorem heap_new' {w : World} {o : Obj} {n : Nat} (h : n = w.heap.size) : (w.alloc o).heap[n]? = some o := by
  subst h; exact heap_alloc_new w o
theorem heap_old' {w : World} {o : Obj} {n : Nat} (h : n < w.heap.size) : (w.alloc o).heap[n]? = w.heap[n]? := Below.heap_alloc w o n h

theorem step_app {ops : Array Oper} {o : Oper} {a : Act} {w : World} {K : Act → World → Prop} {Q : Exit → Act → World → Prop} {E : Prop} (s x : Operand)
    (B g n cp : Nat) (xs : List Value) (m : Nat) (cs : Array Value) (hm : 0 < m ∧ cs.size = m ∧ n + m ≤ 1099511627776 ∧ B ≤ g)
    (ho : o.op = .call { callee := .builtin .append, args := #[s, x], argTypes := #[22, 22] }) (hgd : o.guard = none)
    (hs : a.eval s = .slice (some ⟨g, 0, none⟩) n cp) (hx : ∃ h c t, a.eval x = .slice (some ⟨h, 0, none⟩) m c ∧ w.heap[h]? = some (.cells cs t (0, 0)))
    (hown : w.ownsRow B 5 1 (.slice (some ⟨g, 0, none⟩) n cp) n xs) (h1 : ∀ u ∈ cs.toList, u.oneCell' = true) (hbase : B ≤ w.heap.size)
    (hK : ∀ g' cp' w', w'.ownsRow B 5 1 (.slice (some ⟨g', 0, none⟩) (n + m) cp') (n + m) (xs ++ cs.toList) → Grew B w w' g g' → K (a.put o.dst (.slice (some ⟨g', 0, none⟩) (n + m) cp')) w') :
    if Region.wanted o (yielded ops a.tmps) = true then Oper.wp Try.prog o a w K Q else E := by
  obtain ⟨hm, hl, hb, hgB⟩ := hm
  obtain ⟨h, c, t, hx, hblk⟩ := hx
  obtain ⟨i0, hi, hz0, hz1, hz2⟩ := info_parts Try.info5
  refine step_append_lies _ hgd s x 22 ho B 5 i0 _ 1 1 Try.underlying22 hi hz0 hz1 hz2 rfl (by omega) _ n xs hs hown ⟨h, 0, none⟩ m c cs.toList hx (by simpa using hl) (World.news_of_block hblk) h1 hm (by unfold maxLen; omega) (by omega) hbase _ rfl ?_
  intro g' cp' w' hown' hgrow hat hlt
  refine hK g' cp' w' hown' ⟨(Below.refl _ _).grown hgrow hbase (fun k hk => ?_), hgrow.size, ?_, hlt, fun k hk hne => hgrow.block k hk (by simpa [Value.ownBlock] using hne)⟩
  · simp [Value.ownBlock] at hk; omega
  · rcases hat with hat | hat
    · simp [Value.ownBlock] at hat; exact .inl hat.symm
    · exact .inr hat

theorem wpList_app {ops : Array Oper} {rest : List Oper} {o : Oper} {a : Act} {w : World} {Q : Exit → Act → World → Prop} (s x : Operand)
    (B g n cp : Nat) (xs : List Value) (m : Nat) (cs : Array Value) (hm : 0 < m ∧ cs.size = m ∧ n + m ≤ 1099511627776 ∧ B ≤ g)
    (ho : o.op = .call { callee := .builtin .append, args := #[s, x], argTypes := #[22, 22] }) (hgd : o.guard = none)
    (hs : a.eval s = .slice (some ⟨g, 0, none⟩) n cp) (hx : ∃ h c t, a.eval x = .slice (some ⟨h, 0, none⟩) m c ∧ w.heap[h]? = some (.cells cs t (0, 0)))
    (hown : w.ownsRow B 5 1 (.slice (some ⟨g, 0, none⟩) n cp) n xs) (h1 : ∀ u ∈ cs.toList, u.oneCell' = true) (hbase : B ≤ w.heap.size)
    (hK : ∀ g' cp' w', w'.ownsRow B 5 1 (.slice (some ⟨g', 0, none⟩) (n + m) cp') (n + m) (xs ++ cs.toList) → Grew B w w' g g' → wpList Try.prog ops Q rest (a.put o.dst (.slice (some ⟨g', 0, none⟩) (n + m) cp')) w') :
    wpList Try.prog ops Q (o :: rest) a w := by
  obtain ⟨hm, hl, hb, hgB⟩ := hm
  obtain ⟨h, c, t, hx, hblk⟩ := hx
  obtain ⟨i0, hi, hz0, hz1, hz2⟩ := info_parts Try.info5
  refine wpList_append_lies _ hgd s x 22 ho B 5 i0 _ 1 1 Try.underlying22 hi hz0 hz1 hz2 rfl (by omega) _ n xs hs hown ⟨h, 0, none⟩ m c cs.toList hx (by simpa using hl) (World.news_of_block hblk) h1 hm (by unfold maxLen; omega) (by omega) hbase _ rfl ?_
  intro g' cp' w' hown' hgrow hat hlt
  refine hK g' cp' w' hown' ⟨(Below.refl _ _).grown hgrow hbase (fun k hk => ?_), hgrow.size, ?_, hlt, fun k hk hne => hgrow.block k hk (by simpa [Value.ownBlock] using hne)⟩
  · simp [Value.ownBlock] at hk; omega
  · rcases hat with hat | hat
    · simp [Value.ownBlock] at hat; exact .inl hat.symm
    · exact .inr hat

set_option maxHeartbeats 4000000 in
theorem specPack_any (a : Option Addr) (n cap : Nat) (rs : List Ch.Row) (w : World) (h : CellsAt w a (n * 3) (rcells rs)) (hn : n ≤ 4)
    (hr : Ch.AllFit rs) :
    Calls Try.prog 38 #[.slice a n cap] w fun e w' => ∃ g cp, e = .returned (.slice (some ⟨g, 0, none⟩) (3 + 4 * n) cp) ∧ w'.ownsRow w.heap.size 5 1 (.slice (some ⟨g, 0, none⟩) (3 + 4 * n) cp) (3 + 4 * n) (bts (Ch.pageB rs)) ∧ Below w.heap.size w w' := by
  have HL := h.rlen
  obtain ⟨i0, hi, hz0, hz1, hz2⟩ := info_parts Try.info5
  go_enter Try.func38, Try.ntmps38
  go_wp2
  go_loopw [3, 4] (fun v i wr => ∃ k g cp : Nat, k ≤ n ∧ i = .int .i64 k ∧ v = .slice (some ⟨g, 0, none⟩) (1 + 4 * k) cp ∧ wr.ownsRow w.heap.size 5 1 (.slice (some ⟨g, 0, none⟩) (1 + 4 * k) cp) (1 + 4 * k) (bts (Ch.packed n (rs.take k))) ∧ Below w.heap.size w wr) (fun _ i _ => n - (intOf i).toNat)
  case atStart =>
    refine ⟨0, w.heap.size, 1, Nat.zero_le _, rfl, rfl, ?_, (Below.refl _ _).alloc (Nat.le_refl _) _⟩
    exact World.ownsRow_lit w #[.int .u8 (n : Int)] 1 (Nat.le_refl _) (by unfold maxLen; omega) rfl
  case round =>
    obtain ⟨k, g, cp, hk, rfl, rfl, hown, hB⟩ := hrel
    by_cases hlt : k < n
    · obtain ⟨b, off, rfl, hc0, hc1, hc2⟩ := (h.below hB).row hlt
      obtain ⟨b', off', hbo, hcw0, hcw1, _⟩ := h.row hlt
      simp only [Option.some.injEq, Addr.mk.injEq, and_true] at hbo
      obtain ⟨rfl, rfl⟩ := hbo
      have hbw := lt_of_cell hcw0
      obtain ⟨k0, k1, v0, v1⟩ := hr k
      have HP : Hid (Ch.packed n (rs.take (k + 1)) = Ch.packed n (rs.take k) ++ Ch.rowB (rs.getD k Ch.Row.zero)) := Ch.packed_snoc n rs k (by have := HL.out; omega)
      generalize rs.getD k Ch.Row.zero = r at *
      obtain ⟨rk, rv, rg⟩ := r
      simp only [Ch.rowB] at hc0 hc1 hc2 k0 k1 v0 v1 hcw0 hcw1 HP
      have hgB : w.heap.size ≤ g ∧ g < wr.heap.size := owns_bounds hown
      have hgB0 := hgB.1
      have hw0 : (0 : Int) ≤ (k : Int) := by omega
      have hw1 : (k : Int) < (n : Int) := by omega
      have hwr : IntKind.u8.wrap rk = rk := by simp [IntKind.wrap_u8]; omega
      have EN : Hid (1 + 4 * k + 1 + 2 + 1 = 1 + 4 * (k + 1)) := by show _ = _; omega
      cases rg
      · go_wp2
        go_region_held3 (fun w' => w'.cell? ⟨b, off + k * 3, none⟩ = some (.int .i64 rk) ∧ w'.cell? ⟨b, off + k * 3 + 1, none⟩ = some (.int .i64 rv))
          (first | go_keep | (refine ⟨(Below.cell (p := ⟨b, off + k * 3, none⟩) (B := w.heap.size) (w := w) ?_ hbw).trans hcw0, (Below.cell (p := ⟨b, off + k * 3 + 1, none⟩) (B := w.heap.size) (w := w) ?_ hbw).trans hcw1⟩ <;> exact bw3) | (refine ⟨(Below.cell (p := ⟨b, off + k * 3, none⟩) (B := w.heap.size) (w := w) ?_ hbw).trans hcw0, (Below.cell (p := ⟨b, off + k * 3 + 1, none⟩) (B := w.heap.size) (w := w) ?_ hbw).trans hcw1⟩ <;> exact bw2) | (refine ⟨(Below.cell (p := ⟨b, off + k * 3, none⟩) (B := w.heap.size) (w := w) ?_ hbw).trans hcw0, (Below.cell (p := ⟨b, off + k * 3 + 1, none⟩) (B := w.heap.size) (w := w) ?_ hbw).trans hcw1⟩ <;> exact bw1))
          ((first
            | (go_at_call 56; refine (two_any _ _ v0 (by omega)).mono ?_; rintro e w' ⟨rfl, rfl⟩)
            | (refine step_app (.tmp 21) (.tmp 28) w.heap.size g (1 + 4 * k) cp (bts (Ch.packed n (rs.take k))) 1 #[.int .u8 rk] ⟨by omega, rfl, by omega, by omega⟩ ?_ ?_ ?_ ?_ ?_ ?_ ?_ ?_; exact rfl; exact rfl; exact rfl; (refine ⟨_, _, 5, rfl, ?_⟩; (first | exact heap_new' (by simp) | exact (heap_old' (by simp)).trans (heap_new' (by simp)))); (repeat (first | exact hown | apply World.ownsRow.drew | apply World.ownsRow.alloc)); (simp [Value.oneCell']); (focus (first | omega | (simp; done) | (simp; omega))); intro g1 c1 w1 own1 gr1; have z1 := gr1.size; have t1 := gr1.here; have l1 := gr1.lt; have bw1 : Below w.heap.size w w1 := Below.trans (by repeat (first | exact hB | refine Below.drew ?_ | refine Below.alloc ?_ (by first | omega | (simp; done) | (simp; omega)) _)) gr1.below; (try simp at z1); (try simp at t1))
            | (refine step_app (.tmp 29) (.tmp 35) w.heap.size g1 (1 + 4 * k + 1) c1 (bts (Ch.packed n (rs.take k)) ++ [.int .u8 rk]) 2 #[.int .u8 (rv / 256), .int .u8 (rv % 256)] ⟨by omega, rfl, by omega, by omega⟩ ?_ ?_ ?_ ?_ ?_ ?_ ?_ ?_; exact rfl; exact rfl; exact rfl; (refine ⟨_, _, 5, rfl, ?_⟩; (first | exact heap_new' (by simp) | exact (heap_old' (by simp)).trans (heap_new' (by simp)))); (repeat (first | exact own1 | apply World.ownsRow.drew | apply World.ownsRow.alloc)); (simp [Value.oneCell']); (focus (first | omega | (simp; done) | (simp; omega))); intro g2 c2 w2 own2 gr2; have z2 := gr2.size; have t2 := gr2.here; have l2 := gr2.lt; have bw2 : Below w.heap.size w w2 := Below.trans (by repeat (first | exact bw1 | refine Below.drew ?_ | refine Below.alloc ?_ (by first | omega | (simp; done) | (simp; omega)) _)) gr2.below; (try simp at z2); (try simp at t2))
            | (refine step_app (.tmp 36) (.tmp 38) w.heap.size g2 (1 + 4 * k + 1 + 2) c2 (bts (Ch.packed n (rs.take k)) ++ [.int .u8 rk] ++ [.int .u8 (rv / 256), .int .u8 (rv % 256)]) 1 #[.int .u8 0] ⟨by omega, rfl, by omega, by omega⟩ ?_ ?_ ?_ ?_ ?_ ?_ ?_ ?_; exact rfl; exact rfl; exact rfl; (refine ⟨_, _, 5, rfl, ?_⟩; (first | exact heap_new' (by simp) | (refine (gr2.blk _ ?_ ?_).trans ?_; (focus (first | omega | (simp; done) | (simp; omega))); omega; (first | exact heap_new' (by simp) | exact (heap_old' (by simp)).trans (heap_new' (by simp)))) | (refine (gr2.blk _ ?_ ?_).trans ((heap_old' ?_).trans ((gr1.blk _ ?_ ?_).trans ?_)); (focus (first | omega | (simp; done) | (simp; omega))); omega; (focus (first | omega | (simp; done) | (simp; omega))); (focus (first | omega | (simp; done) | (simp; omega))); omega; (first | exact heap_new' (by simp) | exact (heap_old' (by simp)).trans (heap_new' (by simp)))))); (repeat (first | exact own2 | apply World.ownsRow.drew | apply World.ownsRow.alloc)); (simp [Value.oneCell']); (focus (first | omega | (simp; done) | (simp; omega))); intro g3 c3 w3 own3 gr3; have z3 := gr3.size; have t3 := gr3.here; have l3 := gr3.lt; have bw3 : Below w.heap.size w w3 := Below.trans (by repeat (first | exact bw2 | refine Below.drew ?_ | refine Below.alloc ?_ (by first | omega | (simp; done) | (simp; omega)) _)) gr3.below; (try simp at z3); (try simp at t3))))
        all_goals
          go_wp2
          go_roundw
          case rel =>
            refine ⟨k + 1, g3, c3, by omega, by go_num, by rw [EN.out], ?_, bw3⟩
            rw [HP.out]
            rw [EN.out] at own3
            simpa [bts] using own3
          case measure => simp [intOf]; omega
      · go_wp2
        go_region_held3 (fun w' => w'.cell? ⟨b, off + k * 3, none⟩ = some (.int .i64 rk) ∧ w'.cell? ⟨b, off + k * 3 + 1, none⟩ = some (.int .i64 rv))
          (first | go_keep | (refine ⟨(Below.cell (p := ⟨b, off + k * 3, none⟩) (B := w.heap.size) (w := w) ?_ hbw).trans hcw0, (Below.cell (p := ⟨b, off + k * 3 + 1, none⟩) (B := w.heap.size) (w := w) ?_ hbw).trans hcw1⟩ <;> exact bw3) | (refine ⟨(Below.cell (p := ⟨b, off + k * 3, none⟩) (B := w.heap.size) (w := w) ?_ hbw).trans hcw0, (Below.cell (p := ⟨b, off + k * 3 + 1, none⟩) (B := w.heap.size) (w := w) ?_ hbw).trans hcw1⟩ <;> exact bw2) | (refine ⟨(Below.cell (p := ⟨b, off + k * 3, none⟩) (B := w.heap.size) (w := w) ?_ hbw).trans hcw0, (Below.cell (p := ⟨b, off + k * 3 + 1, none⟩) (B := w.heap.size) (w := w) ?_ hbw).trans hcw1⟩ <;> exact bw1))
          ((first
            | (go_at_call 56; refine (two_any _ _ v0 (by omega)).mono ?_; rintro e w' ⟨rfl, rfl⟩)
            | (refine step_app (.tmp 21) (.tmp 28) w.heap.size g (1 + 4 * k) cp (bts (Ch.packed n (rs.take k))) 1 #[.int .u8 rk] ⟨by omega, rfl, by omega, by omega⟩ ?_ ?_ ?_ ?_ ?_ ?_ ?_ ?_; exact rfl; exact rfl; exact rfl; (refine ⟨_, _, 5, rfl, ?_⟩; (first | exact heap_new' (by simp) | exact (heap_old' (by simp)).trans (heap_new' (by simp)))); (repeat (first | exact hown | apply World.ownsRow.drew | apply World.ownsRow.alloc)); (simp [Value.oneCell']); (focus (first | omega | (simp; done) | (simp; omega))); intro g1 c1 w1 own1 gr1; have z1 := gr1.size; have t1 := gr1.here; have l1 := gr1.lt; have bw1 : Below w.heap.size w w1 := Below.trans (by repeat (first | exact hB | refine Below.drew ?_ | refine Below.alloc ?_ (by first | omega | (simp; done) | (simp; omega)) _)) gr1.below; (try simp at z1); (try simp at t1))
            | (refine step_app (.tmp 29) (.tmp 35) w.heap.size g1 (1 + 4 * k + 1) c1 (bts (Ch.packed n (rs.take k)) ++ [.int .u8 rk]) 2 #[.int .u8 (rv / 256), .int .u8 (rv % 256)] ⟨by omega, rfl, by omega, by omega⟩ ?_ ?_ ?_ ?_ ?_ ?_ ?_ ?_; exact rfl; exact rfl; exact rfl; (refine ⟨_, _, 5, rfl, ?_⟩; (first | exact heap_new' (by simp) | exact (heap_old' (by simp)).trans (heap_new' (by simp)))); (repeat (first | exact own1 | apply World.ownsRow.drew | apply World.ownsRow.alloc)); (simp [Value.oneCell']); (focus (first | omega | (simp; done) | (simp; omega))); intro g2 c2 w2 own2 gr2; have z2 := gr2.size; have t2 := gr2.here; have l2 := gr2.lt; have bw2 : Below w.heap.size w w2 := Below.trans (by repeat (first | exact bw1 | refine Below.drew ?_ | refine Below.alloc ?_ (by first | omega | (simp; done) | (simp; omega)) _)) gr2.below; (try simp at z2); (try simp at t2))
            | (refine step_app (.tmp 36) (.tmp 38) w.heap.size g2 (1 + 4 * k + 1 + 2) c2 (bts (Ch.packed n (rs.take k)) ++ [.int .u8 rk] ++ [.int .u8 (rv / 256), .int .u8 (rv % 256)]) 1 #[.int .u8 1] ⟨by omega, rfl, by omega, by omega⟩ ?_ ?_ ?_ ?_ ?_ ?_ ?_ ?_; exact rfl; exact rfl; exact rfl; (refine ⟨_, _, 5, rfl, ?_⟩; (first | exact heap_new' (by simp) | (refine (gr2.blk _ ?_ ?_).trans ?_; (focus (first | omega | (simp; done) | (simp; omega))); omega; (first | exact heap_new' (by simp) | exact (heap_old' (by simp)).trans (heap_new' (by simp)))) | (refine (gr2.blk _ ?_ ?_).trans ((heap_old' ?_).trans ((gr1.blk _ ?_ ?_).trans ?_)); (focus (first | omega | (simp; done) | (simp; omega))); omega; (focus (first | omega | (simp; done) | (simp; omega))); (focus (first | omega | (simp; done) | (simp; omega))); omega; (first | exact heap_new' (by simp) | exact (heap_old' (by simp)).trans (heap_new' (by simp)))))); (repeat (first | exact own2 | apply World.ownsRow.drew | apply World.ownsRow.alloc)); (simp [Value.oneCell']); (focus (first | omega | (simp; done) | (simp; omega))); intro g3 c3 w3 own3 gr3; have z3 := gr3.size; have t3 := gr3.here; have l3 := gr3.lt; have bw3 : Below w.heap.size w w3 := Below.trans (by repeat (first | exact bw2 | refine Below.drew ?_ | refine Below.alloc ?_ (by first | omega | (simp; done) | (simp; omega)) _)) gr3.below; (try simp at z3); (try simp at t3))))
        all_goals
          go_wp2
          go_roundw
          case rel =>
            refine ⟨k + 1, g3, c3, by omega, by go_num, by rw [EN.out], ?_, bw3⟩
            rw [HP.out]
            rw [EN.out] at own3
            simpa [bts] using own3
          case measure => simp [intOf]; omega
    · obtain rfl : k = n := by omega
      have HT : Hid (rs.take k = rs) := by show _ = _; exact List.take_of_length_le (by have := HL.out; omega)
      rw [HT.out] at hown
      have hgB := owns_bounds hown
      have hbts : IsB (Ch.packed k rs) := isB_of (Ch.packed_bytes k rs (by omega) (by omega) hr)
      have HE : Hid (bts (Ch.packed k rs) ++ [.int .u8 (Ch.sumB (Ch.packed k rs) / 256), .int .u8 (Ch.sumB (Ch.packed k rs) % 256)] = bts (Ch.pageB rs)) := by
        show _ = _
        have := HL.out
        simp [Ch.pageB, Ch.withSum, bts, this]
      obtain ⟨s0, s1⟩ := Ch.sumB_bd (Ch.packed k rs)
      generalize Ch.packed k rs = p at *
      clear HT HL hr h
      go_wp2_with fail
      refine (specSum_any _ (1 + 4 * k) cp p _ (by simpa using owns_cells hown) hbts (by omega)).mono ?_
      rintro e w1 ⟨rfl, rfl⟩
      go_wp2_with fail
      refine (two_any _ _ s0 (by omega)).mono ?_
      rintro e w2 ⟨rfl, rfl⟩
      generalize Ch.sumB p = q at *
      go_wp2_with (at_builtin; refine wpList_app (.tmp 40) (.tmp 43) w.heap.size g (1 + 4 * k) cp (bts p) 2 #[.int .u8 (q / 256), .int .u8 (q % 256)] ⟨by omega, rfl, by omega, by omega⟩ ?_ ?_ ?_ ?_ ?_ ?_ ?_ ?_; exact rfl; exact rfl; exact rfl; (refine ⟨_, _, 5, rfl, ?_⟩; exact heap_new' rfl); exact hown.alloc _; (simp [Value.oneCell']); (simp; omega); intro g1 c1 w1 own1 gr1)
      go_ret
      refine ⟨g1, c1, by rw [show 1 + 4 * k + 2 = 3 + 4 * k by omega]; rfl, ?_, (hB.alloc (by omega) _).trans gr1.below⟩
      rw [show 1 + 4 * k + 2 = 3 + 4 * k by omega] at own1
      rw [← HE.out]
      exact own1
end Go.Proofs.Ythkbaabfhbjbgaa
