
/- Scans: the model's and the program's walks. -/
import Derived.Test.YtlpncikiaojmiaaAllI
namespace Go.Proofs.Ytlpncikiaojmiaa
open Go.RowKit

/-- A row that a scan tells. -/
def Ch.inScan (lo hi : Int) (r : Ch.Row) : Bool := inB r.k lo hi && !r.g
def Ch.scan (lo hi : Int) (rs : List Ch.Row) : List Ch.Row := rs.filter (inScan lo hi)
/-- What ScanRows answers. -/
def Ch.scanR (ls : List (List Ch.Row)) (lo hi : Int) : Int × List Ch.Row :=
  if leavesFault ls != 0 then (leavesFault ls, []) else if inB lo 0 99 && inB hi 0 99 then (0, scan lo hi ls.flatten) else (3, [])
theorem Ch.scan_yes {lo hi : Int} {rs : List Ch.Row} {k : Nat} (h : k < rs.length) (hin : inScan lo hi (rs.getD k Row.zero) = true) : scan lo hi (rs.take (k + 1)) = scan lo hi (rs.take k) ++ [rs.getD k Row.zero] := by
  rw [take_snoc rs Row.zero k h]; generalize rs.getD k Row.zero = r at *; unfold scan; rw [List.filter_append]; simp [hin]
theorem Ch.scan_no {lo hi : Int} {rs : List Ch.Row} {k : Nat} (h : k < rs.length) (hin : inScan lo hi (rs.getD k Row.zero) = false) : scan lo hi (rs.take (k + 1)) = scan lo hi (rs.take k) := by
  rw [take_snoc rs Row.zero k h]; generalize rs.getD k Row.zero = r at *; unfold scan; rw [List.filter_append]; simp [hin]
theorem Ch.scan_len (lo hi : Int) (rs : List Ch.Row) : (scan lo hi rs).length ≤ rs.length := List.length_filter_le _ _

/-- A row that was just made, as a list of one. -/
theorem new_row {w : World} {r : Ch.Row} {t : TypeId} {H : Nat} (hH : H = w.heap.size) : CellsAt (w.alloc (.cells #[.int .i64 r.k, .int .i64 r.v, .bool r.g] t)) (some ⟨H, 0, none⟩) (1 * 3) (rcells [r]) := by
  subst hH
  refine ⟨rfl, fun _ => ⟨_, _, rfl, fun i hi => ?_⟩⟩
  rw [Nat.zero_add]
  have := cell_of_row (w.alloc (.cells #[.int .i64 r.k, .int .i64 r.v, .bool r.g] t)) _ i _ _ _ (heap_alloc_new w _)
  rw [this]
  simp [rcells]

/-- Rows appended to rows of one's own: all other blocks stay. -/
theorem wpList_appG {ops : Array Oper} {rest : List Oper} {o : Oper} {a : Act} {w : World} {Q : Exit → Act → World → Prop} (s x : Operand)
    (B : Nat) (v : Value) (n : Nat) (rs : List Ch.Row) (m : Nat) (zs : List Ch.Row) (hm : n + m ≤ 2097152) (hm0 : 0 < m)
    (ho : o.op = .call { callee := .builtin .append, args := #[s, x], argTypes := #[27, 27] }) (hgd : o.guard = none)
    (hs : a.eval s = v) (hx : ∃ ad c, a.eval x = .slice (some ad) m c ∧ CellsAt w (some ad) (m * 3) (rcells zs))
    (hown : w.ownsRow B 64 3 v n (rcells rs)) (hbase : B ≤ w.heap.size)
    (hK : ∀ a' c' w', w'.ownsRow B 64 3 (.slice a' (n + m) c') (n + m) (rcells (rs ++ zs)) → w.grownBy w' v.ownBlock → (∀ g, (Value.slice a' (n + m) c').ownBlock = some g → v.ownBlock = some g ∨ w.heap.size ≤ g) → wpList Try.prog ops Q rest (a.put o.dst (.slice a' (n + m) c')) w') :
    wpList Try.prog ops Q (o :: rest) a w := by
  obtain ⟨ad, c, hx, hc⟩ := hx
  obtain ⟨i0, hi, hz0, hz1, hz2⟩ := info_parts Try.info64
  refine wpList_append_lies w hgd s x 27 ho B 64 i0 _ 3 24 Try.underlying27 hi hz0 hz1 hz2 rfl (by omega) v n (rcells rs) hs hown ad m c (rcells zs) hx hc.1 ?_ (rcells_one zs) hm0 (by unfold maxLen; omega) (by omega) hbase _ rfl ?_
  · intro j u hj
    have hjl : j < (rcells zs).length := (List.getElem?_eq_some_iff.1 hj).1
    have hl := hc.1
    obtain ⟨b, off, ha, hcc⟩ := hc.2 (by omega)
    simp only [Option.some.injEq] at ha
    subst ha
    have e : (⟨b, off, none⟩ : Addr).add j = ⟨b, off + j, none⟩ := by
      unfold Addr.add
      split
      · next h0 => subst h0; rfl
      · rfl
    rw [e, hcc j (by omega), hj]
  · intro g cp' w' hown' hgrow hat hlt
    rw [← rcells_append] at hown'
    refine hK _ _ w' hown' hgrow fun g' hg' => ?_
    simp [Value.ownBlock] at hg'
    subst hg'
    rcases hat with hat | hat
    · exact .inl hat
    · exact .inr (by omega)

theorem Ch.scanR_code {ls : List (List Ch.Row)} {lo hi : Int} (h : (leavesFault ls != 0) = true) : scanR ls lo hi = (leavesFault ls, []) := by rw [scanR, if_pos h]
theorem Ch.scanR_range {ls : List (List Ch.Row)} {lo hi : Int} (h : (leavesFault ls != 0) = false) (h2 : (inB lo 0 99 && inB hi 0 99) = false) : scanR ls lo hi = (3, []) := by
  rw [scanR, if_neg (by rw [h]; exact Bool.false_ne_true), if_neg (by rw [h2]; exact Bool.false_ne_true)]
theorem Ch.scanR_ok {ls : List (List Ch.Row)} {lo hi : Int} (h : (leavesFault ls != 0) = false) (h2 : (inB lo 0 99 && inB hi 0 99) = true) : scanR ls lo hi = (0, scan lo hi ls.flatten) := by
  rw [scanR, if_neg (by rw [h]; exact Bool.false_ne_true), if_pos h2]

end Go.Proofs.Ytlpncikiaojmiaa
