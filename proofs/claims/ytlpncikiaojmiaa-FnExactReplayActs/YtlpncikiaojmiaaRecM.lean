
/- Plain mathematics of chapter 2 (records and logs): no Go in it. -/
import Derived.Test.YtlpncikiaojmiaaMath
namespace Go.Proofs.Ytlpncikiaojmiaa.Ch

structure Rec where
  kd : Int
  tx : Int
  ky : Int
  hd : Bool
  ol : Int
  hs : Bool
  nw : Int
def Rec.zero : Rec := ⟨0, 0, 0, false, 0, false, 0⟩
def sets (k : Int) : Bool := k == 2 || k == 3
def Rec.fault (r : Rec) : Int :=
  if !inB r.kd 1 5 then 1
  else if !inB r.tx 1 999 || sets r.kd && (!inB r.ky 0 99 || !inB r.ol 0 9999 || !inB r.nw 0 9999) then 3
  else if !sets r.kd && (r.ky != 0 || r.hd || r.hs || r.ol != 0 || r.nw != 0) then 1
  else if !r.hd && r.ol != 0 || !r.hs && r.nw != 0 then 1 else 0
def Rec.flags (r : Rec) : Int := (if r.hd then 1 else 0) + (if r.hs then 2 else 0)
def Rec.more (r : Rec) : List Int := [r.ky, r.flags, r.ol / 256, r.ol % 256, r.nw / 256, r.nw % 256]
def Rec.body (r : Rec) : List Int := [r.kd, r.tx / 256, r.tx % 256] ++ (if sets r.kd then r.more else [])
def Rec.bytes (r : Rec) : List Int := withSum r.body
def Rec.len (r : Rec) : Nat := if sets r.kd then 11 else 5
theorem Rec.len_bd (r : Rec) : 5 ≤ r.len ∧ r.len ≤ 11 := by unfold Rec.len; split <;> omega
theorem Rec.bytes_len (r : Rec) : r.bytes.length = r.len := by
  unfold Rec.bytes withSum Rec.body Rec.len
  cases h : sets r.kd <;> simp [Rec.more]
/-- A record without a fault: what its numbers are. -/
structure Rec.Fit (r : Rec) : Prop where
  kd : 1 ≤ r.kd ∧ r.kd ≤ 5
  tx : 1 ≤ r.tx ∧ r.tx ≤ 999
  ky : 0 ≤ r.ky ∧ r.ky ≤ 99
  ol : 0 ≤ r.ol ∧ r.ol ≤ 9999
  nw : 0 ≤ r.nw ∧ r.nw ≤ 9999
  rest : sets r.kd = false → r.ky = 0 ∧ r.hd = false ∧ r.ol = 0 ∧ r.hs = false ∧ r.nw = 0
theorem Rec.fit {r : Rec} (h : r.fault = 0) : r.Fit := by
  obtain ⟨kd, tx, ky, hd, ol, hs, nw⟩ := r
  simp only [Rec.fault] at h
  by_cases h1 : (!inB kd 1 5) = true
  · rw [if_pos h1] at h; omega
  rw [if_neg h1] at h
  by_cases h2 : (!inB tx 1 999 || sets kd && (!inB ky 0 99 || !inB ol 0 9999 || !inB nw 0 9999)) = true
  · rw [if_pos h2] at h; omega
  rw [if_neg h2] at h
  by_cases h3 : (!sets kd && (ky != 0 || hd || hs || ol != 0 || nw != 0)) = true
  · rw [if_pos h3] at h; omega
  clear h
  cases hs' : sets kd
  · simp [hs'] at h1 h2 h3
    simp [inB] at h1 h2
    obtain ⟨⟨⟨⟨a, b⟩, c⟩, d⟩, e⟩ := h3
    subst a b c d e
    exact ⟨⟨h1.1, h1.2⟩, ⟨h2.1, h2.2⟩, by simp, by simp, by simp, fun _ => ⟨rfl, rfl, rfl, rfl, rfl⟩⟩
  · simp [hs', inB] at h1 h2
    obtain ⟨⟨a, b⟩, ⟨⟨c, d⟩, e, f⟩, g, k⟩ := h2
    refine ⟨⟨h1.1, h1.2⟩, ⟨a, b⟩, ⟨c, d⟩, ⟨e, f⟩, ⟨g, k⟩, fun h => ?_⟩
    simp [hs'] at h
theorem Rec.flags_bd (r : Rec) : 0 ≤ r.flags ∧ r.flags ≤ 3 := by
  unfold Rec.flags; cases r.hd <;> cases r.hs <;> simp
theorem Rec.body_bytes {r : Rec} (h : r.Fit) : AllB r.body := by
  obtain ⟨⟨_, _⟩, ⟨_, _⟩, ⟨_, _⟩, ⟨_, _⟩, ⟨_, _⟩, _⟩ := h
  have := r.flags_bd
  intro z hz
  unfold Rec.body at hz
  cases hs : sets r.kd
  · simp [hs] at hz
    rcases hz with rfl | rfl | rfl <;> omega
  · simp [hs, Rec.more] at hz
    rcases hz with rfl | rfl | rfl | rfl | rfl | rfl | rfl | rfl | rfl <;> omega
theorem Rec.all_bytes {r : Rec} (h : r.Fit) : AllB r.bytes := by
  intro z hz
  unfold Rec.bytes withSum at hz
  rcases List.mem_append.1 hz with hz | hz
  · exact Rec.body_bytes h z hz
  · exact sum_bytes _ z hz

/-- What the bytes at the beginning would be. -/
def unp (zs : List Int) : Rec :=
  if sets (zs.getD 0 0) then ⟨zs.getD 0 0, zs.getD 1 0 * 256 + zs.getD 2 0, zs.getD 3 0, zs.getD 4 0 % 2 == 1, zs.getD 5 0 * 256 + zs.getD 6 0, zs.getD 4 0 / 2 % 2 == 1, zs.getD 7 0 * 256 + zs.getD 8 0⟩
  else ⟨zs.getD 0 0, zs.getD 1 0 * 256 + zs.getD 2 0, 0, false, 0, false, 0⟩
/-- The record at the beginning. -/
def first (zs : List Int) : Option Rec := if (unp zs).fault = 0 ∧ (unp zs).bytes <+: zs then some (unp zs) else none
theorem first_some {zs : List Int} {r : Rec} (h : first zs = some r) : r.fault = 0 ∧ r.bytes <+: zs ∧ unp zs = r := by
  unfold first at h
  split at h
  · next hc => cases h; exact ⟨hc.1, hc.2, rfl⟩
  · cases h
theorem first_len {zs : List Int} {r : Rec} (h : first zs = some r) : 5 ≤ r.len ∧ r.len ≤ zs.length := by
  obtain ⟨_, h2, _⟩ := first_some h
  have := h2.length_le
  rw [r.bytes_len] at this
  exact ⟨r.len_bd.1, this⟩
def readsN : Nat → List Int → List Rec
  | 0, _ => []
  | n + 1, zs => match first zs with
    | none => []
    | some r => r :: readsN n (zs.drop r.len)
def reads (zs : List Int) : List Rec := readsN zs.length zs
theorem readsN_none {n : Nat} {zs : List Int} (h : first zs = none) : readsN n zs = [] := by
  cases n with
  | zero => rfl
  | succ n => simp [readsN, h]
theorem readsN_eq (n : Nat) : ∀ (m : Nat) (zs : List Int), zs.length ≤ n → zs.length ≤ m → readsN n zs = readsN m zs := by
  induction n with
  | zero =>
    intro m zs h _
    have : first zs = none := by
      cases hf : first zs with
      | none => rfl
      | some r => have := first_len hf; omega
    rw [readsN_none this, readsN_none this]
  | succ n ih =>
    intro m zs h hm
    cases hf : first zs with
    | none => rw [readsN_none hf, readsN_none hf]
    | some r =>
      have hl := first_len hf
      cases m with
      | zero => omega
      | succ m =>
        simp only [readsN, hf]
        rw [ih m (zs.drop r.len) (by simp; omega) (by simp; omega)]
theorem reads_none {zs : List Int} (h : first zs = none) : reads zs = [] := readsN_none h
theorem reads_some {zs : List Int} {r : Rec} (h : first zs = some r) : reads zs = r :: reads (zs.drop r.len) := by
  unfold reads
  have hl := first_len h
  obtain ⟨n, hn⟩ : ∃ n, zs.length = n + 1 := ⟨zs.length - 1, by omega⟩
  rw [hn]
  simp only [readsN, h]
  rw [readsN_eq n (zs.drop r.len).length (zs.drop r.len) (by simp; omega) (Nat.le_refl _)]
def lenOf (rs : List Rec) : Nat := (rs.map Rec.len).sum
theorem lenOf_nil : lenOf [] = 0 := rfl
theorem lenOf_cons (r : Rec) (rs : List Rec) : lenOf (r :: rs) = r.len + lenOf rs := rfl
theorem lenOf_append (a b : List Rec) : lenOf (a ++ b) = lenOf a + lenOf b := by simp [lenOf]
def used (zs : List Int) : Nat := lenOf (reads zs)
theorem used_none {zs : List Int} (h : first zs = none) : used zs = 0 := by unfold used; rw [reads_none h]; rfl
theorem used_some {zs : List Int} {r : Rec} (h : first zs = some r) : used zs = r.len + used (zs.drop r.len) := by
  unfold used; rw [reads_some h, lenOf_cons]
theorem used_le (zs : List Int) : used zs ≤ zs.length := by
  suffices H : ∀ n zs, List.length zs ≤ n → used zs ≤ zs.length from H _ zs (Nat.le_refl _)
  intro n
  induction n with
  | zero =>
    intro zs h
    cases hf : first zs with
    | none => rw [used_none hf]; omega
    | some r => have := first_len hf; omega
  | succ n ih =>
    intro zs h
    cases hf : first zs with
    | none => rw [used_none hf]; omega
    | some r =>
      have hl := first_len hf
      have := ih (zs.drop r.len) (by simp; omega)
      rw [used_some hf]
      simp at this
      omega
theorem reads_le (zs : List Int) : 5 * (reads zs).length ≤ used zs := by
  unfold used
  generalize reads zs = rs
  induction rs with
  | nil => simp [lenOf]
  | cons r rs ih => rw [lenOf_cons]; have := r.len_bd; simp; omega
/-- Bytes are torn: nothing of a record that would begin there. -/
theorem getD_prefix {a zs : List Int} (h : a <+: zs) (i : Nat) (hi : i < a.length) : zs.getD i 0 = a.getD i 0 := by
  obtain ⟨t, rfl⟩ := h
  simp [List.getD, List.getElem?_append_left hi]
theorem unp_of_bytes {r : Rec} (h : r.fault = 0) {zs : List Int} (hp : r.bytes <+: zs) : unp zs = r := by
  have f := Rec.fit h
  obtain ⟨kd, tx, ky, hd, ol, hs, nw⟩ := r
  obtain ⟨⟨k0, k1⟩, ⟨t0, t1⟩, ⟨y0, y1⟩, ⟨o0, o1⟩, ⟨n0, n1⟩, rest⟩ := f
  simp only at k0 k1 t0 t1 y0 y1 o0 o1 n0 n1 rest
  have hl := Rec.bytes_len ⟨kd, tx, ky, hd, ol, hs, nw⟩
  have h5 := (Rec.len_bd ⟨kd, tx, ky, hd, ol, hs, nw⟩).1
  have g0 := getD_prefix hp 0 (by omega)
  have g1 := getD_prefix hp 1 (by omega)
  have g2 := getD_prefix hp 2 (by omega)
  have e0 : (Rec.bytes ⟨kd, tx, ky, hd, ol, hs, nw⟩).getD 0 0 = kd := rfl
  have e1 : (Rec.bytes ⟨kd, tx, ky, hd, ol, hs, nw⟩).getD 1 0 = tx / 256 := rfl
  have e2 : (Rec.bytes ⟨kd, tx, ky, hd, ol, hs, nw⟩).getD 2 0 = tx % 256 := rfl
  rw [e0] at g0
  rw [e1] at g1
  rw [e2] at g2
  unfold unp
  rw [g0, g1, g2]
  cases hset : sets kd
  · obtain ⟨rfl, rfl, rfl, rfl, rfl⟩ := rest hset
    simp
    omega
  · have hl11 : (Rec.bytes ⟨kd, tx, ky, hd, ol, hs, nw⟩).length = 11 := by rw [hl]; simp [Rec.len, hset]
    have eb : Rec.bytes ⟨kd, tx, ky, hd, ol, hs, nw⟩ = withSum [kd, tx / 256, tx % 256, ky, Rec.flags ⟨kd, tx, ky, hd, ol, hs, nw⟩, ol / 256, ol % 256, nw / 256, nw % 256] := by
      simp [Rec.bytes, Rec.body, hset, Rec.more]
    have g3 := getD_prefix hp 3 (by omega)
    have g4 := getD_prefix hp 4 (by omega)
    have g5 := getD_prefix hp 5 (by omega)
    have g6 := getD_prefix hp 6 (by omega)
    have g7 := getD_prefix hp 7 (by omega)
    have g8 := getD_prefix hp 8 (by omega)
    rw [eb] at g3 g4 g5 g6 g7 g8
    simp [withSum] at g3 g4 g5 g6 g7 g8
    have t : tx / 256 * 256 + tx % 256 = tx := by omega
    have o : ol / 256 * 256 + ol % 256 = ol := by omega
    have n : nw / 256 * 256 + nw % 256 = nw := by omega
    simp [List.getD, g3, g4, g5, g6, g7, g8, t, o, n, Rec.flags]
    cases hd <;> cases hs <;> simp
theorem first_of_bytes {r : Rec} (h : r.fault = 0) {zs : List Int} (hp : r.bytes <+: zs) : first zs = some r := by
  have e := unp_of_bytes h hp
  unfold first
  rw [e, if_pos ⟨h, hp⟩]
theorem first_append {zs : List Int} {r : Rec} (h : first zs = some r) (t : List Int) : first (zs ++ t) = some r := by
  obtain ⟨h1, h2, _⟩ := first_some h
  exact first_of_bytes h1 (h2.trans (List.prefix_append zs t))
theorem reads_append : ∀ (n : Nat) (zs t : List Int), zs.length ≤ n → used zs = zs.length → reads (zs ++ t) = reads zs ++ reads t := by
  intro n
  induction n with
  | zero =>
    intro zs t h _
    have : zs = [] := List.length_eq_zero_iff.1 (by omega)
    subst this
    have : reads [] = [] := rfl
    rw [this]; simp
  | succ n ih =>
    intro zs t h hu
    cases hf : first zs with
    | none =>
      rw [used_none hf] at hu
      have : zs = [] := List.length_eq_zero_iff.1 (by omega)
      subst this
      have : reads [] = [] := rfl
      rw [this]; simp
    | some r =>
      have hl := first_len hf
      rw [used_some hf] at hu
      rw [reads_some (first_append hf t), reads_some hf]
      have e : (zs ++ t).drop r.len = zs.drop r.len ++ t := by
        rw [List.drop_append]
        simp [show r.len - zs.length = 0 by omega]
      rw [e, ih (zs.drop r.len) t (by simp; omega) (by simp; omega)]
      rfl
theorem reads_bytes {r : Rec} (h : r.fault = 0) (t : List Int) : reads (r.bytes ++ t) = r :: reads t := by
  have := first_of_bytes h (List.prefix_append r.bytes t)
  rw [reads_some this, ← r.bytes_len]
  simp
def walFault (s l : List Int) : Int := if 4000 < s.length + l.length then 2 else if used s ≠ s.length ∨ used l ≠ l.length then 5 else 0
end Go.Proofs.Ytlpncikiaojmiaa.Ch
