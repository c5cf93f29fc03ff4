/- Plain: acts that are strict. -/
import Derived.Test.YtlpncikiaojmiaaAcM
namespace Go.Proofs.Ytlpncikiaojmiaa

def Ch.isW (k : Int) : Bool := k == 2 || k == 3
def Ch.isE (k : Int) : Bool := k == 6 || k == 7
/-- What must not come behind an act. -/
def Ch.forbid (f l : Ch.Ac) : Bool := if Ch.isW f.k = true then (l.tx != f.tx && Ch.touches l.k l.a l.b l.v f.a) else if Ch.isE f.k = true then l.tx == f.tx else false
/-- Nothing of what comes behind an act is forbidden, up to its transaction's end. -/
def Ch.rowOk (f : Ch.Ac) : List Ch.Ac → Bool
  | [] => true
  | l :: r => if Ch.forbid f l = true then false else if (l.tx == f.tx && Ch.isE l.k) = true then true else Ch.rowOk f r
def Ch.strict : List Ch.Ac → Bool
  | [] => true
  | a :: r => if Ch.rowOk a r = true then Ch.strict r else false
/-- StrictActs. -/
def Ch.strictR (ts : List Ch.Ac) : Bool := if Ch.acsF ts = 0 then Ch.strict ts else false

theorem Ch.forbid_w {f l : Ch.Ac} (h : Ch.isW f.k = true) : Ch.forbid f l = (l.tx != f.tx && Ch.touches l.k l.a l.b l.v f.a) := by unfold Ch.forbid; rw [if_pos h]
theorem Ch.forbid_e {f l : Ch.Ac} (h : Ch.isW f.k = false) (h' : Ch.isE f.k = true) : Ch.forbid f l = (l.tx == f.tx) := by unfold Ch.forbid; rw [if_neg (by simp [h]), if_pos h']
theorem Ch.forbid_n {f l : Ch.Ac} (h : Ch.isW f.k = false) (h' : Ch.isE f.k = false) : Ch.forbid f l = false := by unfold Ch.forbid; rw [if_neg (by simp [h]), if_neg (by simp [h'])]
theorem Ch.we_no {k : Int} (h : Ch.isW k = true) : Ch.isE k = false := by
  unfold Ch.isW at h
  simp at h
  rcases h with rfl | rfl <;> rfl

theorem Ch.dropA {ts : List Ch.Ac} {k : Nat} (h : k < ts.length) : ts.drop k = Ch.acAt ts k :: ts.drop (k + 1) := by
  rw [List.drop_eq_getElem_cons h]
  simp [Ch.acAt, List.getD, h]
theorem Ch.row_yes {f l : Ch.Ac} {r : List Ch.Ac} (h : Ch.forbid f l = true) : Ch.rowOk f (l :: r) = false := by rw [Ch.rowOk, if_pos h]
theorem Ch.row_over {f l : Ch.Ac} {r : List Ch.Ac} (h : Ch.forbid f l = false) (h' : (l.tx == f.tx && Ch.isE l.k) = true) : Ch.rowOk f (l :: r) = true := by rw [Ch.rowOk, if_neg (by simp [h]), if_pos h']
theorem Ch.row_on {f l : Ch.Ac} {r : List Ch.Ac} (h : Ch.forbid f l = false) (h' : (l.tx == f.tx && Ch.isE l.k) = false) : Ch.rowOk f (l :: r) = Ch.rowOk f r := by rw [Ch.rowOk, if_neg (by simp [h]), if_neg (by simp [h'])]
theorem Ch.strict_no {ts : List Ch.Ac} {k : Nat} (h : k < ts.length) (h' : Ch.rowOk (Ch.acAt ts k) (ts.drop (k + 1)) = false) : Ch.strict (ts.drop k) = false := by rw [Ch.dropA h, Ch.strict, if_neg (by simp [h'])]
theorem Ch.strict_on {ts : List Ch.Ac} {k : Nat} (h : k < ts.length) (h' : Ch.rowOk (Ch.acAt ts k) (ts.drop (k + 1)) = true) : Ch.strict (ts.drop k) = Ch.strict (ts.drop (k + 1)) := by rw [Ch.dropA h, Ch.strict, if_pos h']
theorem Ch.strictR_bad {ts : List Ch.Ac} (h : (Ch.acsF ts != 0) = true) : Ch.strictR ts = false := by unfold Ch.strictR; rw [if_neg (by simpa using h)]
theorem Ch.strictR_ok {ts : List Ch.Ac} (h : Ch.acsF ts = 0) : Ch.strictR ts = Ch.strict ts := by unfold Ch.strictR; rw [if_pos h]

/-- A key that an act without a fault writes is one. -/
theorem Ch.write_key {t : Ch.Ac} (h : t.fault = 0) (hw : Ch.isW t.k = true) : Ch.inB t.a 0 99 = true := by
  unfold Ch.Ac.fault at h
  split at h
  · simp at h
  · unfold Ch.isW at hw
    simp only [Bool.or_eq_true, beq_iff_eq] at hw
    cases hk : Ch.inB t.a 0 99 with
    | true => rfl
    | false =>
      exfalso
      rcases hw with e | e
      · unfold Ch.opFault at h
        rw [e] at h
        simp [hk] at h
      · unfold Ch.opFault at h
        rw [e] at h
        simp [hk] at h
theorem Ch.fault_op {t : Ch.Ac} (h : t.fault = 0) : Ch.opFault t.k t.a t.b t.v = 0 := by
  unfold Ch.Ac.fault at h
  split at h
  · simp at h
  · exact h
/-- What the model asks of two acts of others. -/
theorem Ch.forbid_other {f l : Ch.Ac} (hf : f.fault = 0) (hl : l.fault = 0) (h : (l.tx == f.tx) = false) : Ch.forbid f l = (Ch.isW f.k && Ch.touch l.k l.a l.b f.a) := by
  cases hw : Ch.isW f.k with
  | true =>
    rw [Ch.forbid_w hw, Ch.touches_ok (Ch.fault_op hl) (Ch.write_key hf hw)]
    have : (l.tx != f.tx) = true := by simpa [bne] using h
    rw [this]
  | false =>
    cases he : Ch.isE f.k with
    | true => rw [Ch.forbid_e hw he, h]; rfl
    | false => rw [Ch.forbid_n hw he]; rfl
theorem Ch.forbid_own {f l : Ch.Ac} (h : (l.tx == f.tx) = true) : Ch.forbid f l = Ch.isE f.k := by
  cases hw : Ch.isW f.k with
  | true =>
    rw [Ch.forbid_w hw, Ch.we_no hw]
    have : (l.tx != f.tx) = false := by simpa [bne] using h
    rw [this]; rfl
  | false =>
    cases he : Ch.isE f.k with
    | true => rw [Ch.forbid_e hw he, h]
    | false => rw [Ch.forbid_n hw he]
end Go.Proofs.Ytlpncikiaojmiaa
