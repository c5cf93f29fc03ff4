/- Reading a page: the plain mathematics, and the walks of the small functions. -/
import Derived.Test.YthkbaabfhbjbgaaMarkW
import Derived.Test.YthkbaabfhbjbgaaPackW
import Derived.Laws.BitsAllLaws
namespace Go.Proofs.Ythkbaabfhbjbgaa
open Go.RowKit

theorem or_join (x y : Int) (x0 : 0 ≤ x) (x1 : x ≤ 255) (y0 : 0 ≤ y) (y1 : y ≤ 255) : bits .or .u16 (x * 256) y = x * 256 + y := by
  rw [u16_or _ _ (by omega) (by omega) y0 (by omega)]
  obtain ⟨p, rfl⟩ := Int.eq_ofNat_of_zero_le x0
  obtain ⟨q, rfl⟩ := Int.eq_ofNat_of_zero_le y0
  have e : ((p : Int) * 256).toNat = p <<< 8 := by rw [Nat.shiftLeft_eq]; omega
  rw [e, Int.toNat_natCast, ← Nat.shiftLeft_add_eq_or_of_lt (show q < 2 ^ 8 by omega), Nat.shiftLeft_eq]
  omega

theorem join_any (x y : Int) (w : World) (x0 : 0 ≤ x) (x1 : x ≤ 255) (y0 : 0 ≤ y) (y1 : y ≤ 255) :
    Calls Try.prog 58 #[.int .u8 x, .int .u8 y] w fun e w' => e = .returned (.int .i64 (x * 256 + y)) ∧ w' = w := by
  have ho := or_join x y x0 x1 y0 y1
  go_enter Try.func58, Try.ntmps58
  go_wp2
  go_ret
  exact ⟨rfl, rfl⟩

set_option maxHeartbeats 400000 in
theorem take_any (a : Option Addr) (n cap k : Nat) (zs : List Int) (w : World) (h : CellsAt w a n (bts zs)) (hb : IsB zs) (hn : n ≤ 1099511627776) (hk : k + 1 < n) :
    Calls Try.prog 46 #[.slice a n cap, .int .i64 k] w fun e w' => e = .returned (.int .i64 (zs.getD k 0 * 256 + zs.getD (k + 1) 0)) ∧ ∃ q, w' = w.drewN q := by
  obtain ⟨b, off, rfl, hc⟩ := h.at (show k < n by omega)
  obtain ⟨b', off', hbo, hc'⟩ := h.at hk
  simp only [Option.some.injEq, Addr.mk.injEq, and_true] at hbo
  obtain ⟨rfl, rfl⟩ := hbo
  obtain ⟨x0, x1⟩ := hb k
  obtain ⟨y0, y1⟩ := hb (k + 1)
  generalize zs.getD k 0 = x at *
  generalize zs.getD (k + 1) 0 = y at *
  go_enter Try.func46, Try.ntmps46
  go_wp2
  go_quiet (fail)
  go_wp2
  go_ret
  exact ⟨rfl, _, rfl⟩

theorem code_any (c : Int) (w : World) :
    Calls Try.prog 42 #[.iface 70 (.int .i64 c)] w fun e w' => e = .returned (.int .i64 c) ∧ w' = w := by
  have hta : (Instr.typeAssert (.iface 70 (.int .i64 c)) 20 70 true).run Try.prog w = .ok (.tuple #[.int .i64 c, .bool true]) w := by kernel_rfl
  go_enter Try.func42, Try.ntmps42
  go_wp2
  go_ret
  exact ⟨rfl, rfl⟩

/-- A row out of its four bytes. -/
def Ch.readRow (b0 b1 b2 b3 : Int) : Ch.Row := ⟨b0, b1 * 256 + b2, b3 == 1⟩

set_option maxHeartbeats 1000000 in
theorem readRow_ok (b0 b1 b2 b3 : Int) (w : World) (p0 : 0 ≤ b0) (q0 : b0 ≤ 255) (p1 : 0 ≤ b1) (q1 : b1 ≤ 255) (p2 : 0 ≤ b2) (q2 : b2 ≤ 255) (p3 : 0 ≤ b3) (q3 : b3 ≤ 1) :
    Calls Try.prog 65 #[.agg #[.int .u8 b0, .int .u8 b1, .int .u8 b2, .int .u8 b3]] w fun e w' => e = .returned (.agg #[.int .i64 b0, .int .i64 (b1 * 256 + b2), .bool (b3 == 1)]) ∧ Below w.heap.size w w' := by
  have hw0 : IntKind.i64.wrap b0 = b0 := IntWalk.i64_in b0 ⟨by omega, by omega⟩
  go_enter Try.func65, Try.ntmps65
  go_wp2
  go_region_held3 (fun w' => w'.cell? ⟨w.heap.size, 0, none⟩ = some (.int .u8 b0) ∧ w'.cell? ⟨w.heap.size, 1, none⟩ = some (.int .u8 b1) ∧ w'.cell? ⟨w.heap.size, 2, none⟩ = some (.int .u8 b2) ∧ w'.cell? ⟨w.heap.size, 3, none⟩ = some (.int .u8 b3)) (go_keep)
    (first | (go_at_call 58; refine (join_any _ _ _ p1 q1 p2 q2).mono ?_; rintro e w' ⟨rfl, rfl⟩))
  all_goals
    go_wp2
    refine bodyPost_ret (v := .agg #[.int .i64 b0, .int .i64 (b1 * 256 + b2), .bool (b3 == 1)]) (by simp [results, Try.results65, go_sem]) rfl ⟨rfl, ?_⟩
    repeat (first | exact Below.refl _ _ | refine Below.drew ?_ | refine Below.alloc ?_ (by first | omega | (simp; done) | (simp; omega)) _)

set_option maxHeartbeats 400000 in
theorem readRow_no (b0 b1 b2 b3 : Int) (w : World) (q3 : 1 < b3) :
    Calls Try.prog 65 #[.agg #[.int .u8 b0, .int .u8 b1, .int .u8 b2, .int .u8 b3]] w fun e w' => e = .panicked [{ v := .iface 70 (.int .i64 1), recovered := false }] ∧ Below w.heap.size w w' := by
  go_enter Try.func65, Try.ntmps65
  go_wp2
  exact ⟨rfl, rfl, ((Below.refl _ _).alloc (Nat.le_refl _) _).alloc (by simp) _⟩

/-- The i-th row of bytes that stand four by four. -/
def Ch.rowIn (zs : List Int) (i : Nat) : Ch.Row := Ch.readRow (zs.getD (4 * i) 0) (zs.getD (4 * i + 1) 0) (zs.getD (4 * i + 2) 0) (zs.getD (4 * i + 3) 0)
def Ch.rowsIn (zs : List Int) (k : Nat) : List Ch.Row := (List.range k).map (Ch.rowIn zs)
theorem Ch.rowsIn_snoc (zs : List Int) (k : Nat) : Ch.rowsIn zs (k + 1) = Ch.rowsIn zs k ++ [Ch.rowIn zs k] := by simp [Ch.rowsIn, List.range_succ]
theorem Ch.rowsIn_len (zs : List Int) (k : Nat) : (Ch.rowsIn zs k).length = k := by simp [Ch.rowsIn]
theorem rcells_snoc (rs : List Ch.Row) (r : Ch.Row) : rcells (rs ++ [r]) = rcells rs ++ [.int .i64 r.k, .int .i64 r.v, .bool r.g] := by simp [rcells]

theorem wpList_appR {ops : Array Oper} {rest : List Oper} {o : Oper} {a : Act} {w : World} {Q : Exit → Act → World → Prop} (s x : Operand)
    (B : Nat) (v : Value) (n : Nat) (rs : List Ch.Row) (r : Ch.Row) (hn : n ≤ 1048576)
    (ho : o.op = .call { callee := .builtin .append, args := #[s, x], argTypes := #[25, 25] }) (hgd : o.guard = none)
    (hs : a.eval s = v) (hx : ∃ h c t, a.eval x = .slice (some ⟨h, 0, none⟩) 1 c ∧ w.heap[h]? = some (.cells #[.int .i64 r.k, .int .i64 r.v, .bool r.g] t (0, 0)))
    (hown : w.ownsRow B 36 3 v n (rcells rs)) (hbase : B ≤ w.heap.size)
    (hK : ∀ g' cp' w', w'.ownsRow B 36 3 (.slice (some ⟨g', 0, none⟩) (n + 1) cp') (n + 1) (rcells (rs ++ [r])) → Below B w w' → wpList Try.prog ops Q rest (a.put o.dst (.slice (some ⟨g', 0, none⟩) (n + 1) cp')) w') :
    wpList Try.prog ops Q (o :: rest) a w := by
  obtain ⟨h, c, t, hx, hblk⟩ := hx
  obtain ⟨i0, hi, hz0, hz1, hz2⟩ := info_parts Try.info36
  refine wpList_append_lies _ hgd s x 25 ho B 36 i0 _ 3 24 Try.underlying25 hi hz0 hz1 hz2 rfl (by omega) v n (rcells rs) hs hown ⟨h, 0, none⟩ 1 c [.int .i64 r.k, .int .i64 r.v, .bool r.g] hx rfl (World.news_of_block hblk) (by simp [Value.oneCell']) (by omega) (by unfold maxLen; omega) (by omega) hbase _ rfl ?_
  intro g' cp' w' hown' hgrow hat hlt
  rw [← rcells_snoc] at hown'
  refine hK g' cp' w' hown' ((Below.refl _ _).grown hgrow hbase (fun k hk => ?_))
  rcases hown.2 with ⟨hv, _⟩ | ⟨g, cap', cur, hv, hb, _⟩
  · subst hv; simp [Value.ownBlock] at hk
  · subst hv; simp [Value.ownBlock] at hk; omega
end Go.Proofs.Ythkbaabfhbjbgaa
