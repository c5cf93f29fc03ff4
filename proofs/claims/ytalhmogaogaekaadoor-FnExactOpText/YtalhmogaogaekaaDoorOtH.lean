/- tellEach over the fields of an operation, of the program. -/
import Derived.Test.YtalhmogaogaekaaDoorOtG
import Derived.Lib.Join
namespace Go.Proofs.YtalhmogaogaekaaDoor
open Go.RowKit Go.Shelf

theorem new_strT (w : World) (r : ByteArray) (t : TypeId) : CellsAt (w.alloc (.cells #[.string r] t)) (some ⟨w.heap.size, 0, none⟩) (1 * 1) (scells [r]) := by
  refine ⟨rfl, fun _ => ⟨w.heap.size, 0, rfl, fun i hi => ?_⟩⟩
  obtain rfl : i = 0 := by omega
  simp [go_sem, scells]
theorem mkB_data (s : ByteArray) : Ch.mkB s.data.toList = s := rfl
theorem line_tail : ∀ (ns : List Nat) (s : ByteArray), Ch.line s ns = Ch.mkB (s.data.toList ++ Lib.joinTail [32] (ns.map fun n => (Ch.dec n).data.toList))
  | [], s => by simp [Ch.line, Lib.joinTail, mkB_data]
  | n :: r, s => by
    show Ch.line (s ++ ⟨#[32]⟩ ++ Ch.dec n) r = _
    rw [line_tail r]
    simp [Lib.joinTail, ByteArray.data_append]
theorem line_join (s : ByteArray) (ns : List Nat) : (⟨(Lib.join ((s :: ns.map Ch.dec).map (·.data.toList)) [32]).toArray⟩ : ByteArray) = Ch.line s ns := by
  rw [line_tail, List.map_cons, Lib.join_cons, List.map_map]
  rfl

theorem line_size : ∀ (ns : List Nat) (s : ByteArray), (∀ n ∈ ns, n ≤ 9999) → (Ch.line s ns).size ≤ s.size + 5 * ns.length
  | [], s, _ => by simp [Ch.line]
  | n :: r, s, h => by
    show (Ch.line (s ++ ⟨#[32]⟩ ++ Ch.dec n) r).size ≤ _
    have h1 := line_size r (s ++ ⟨#[32]⟩ ++ Ch.dec n) (fun m hm => h m (by simp [hm]))
    have h2 := Ch.dec_size 3 n (by have := h n (by simp); omega)
    have h3 : (s ++ ⟨#[32]⟩ ++ Ch.dec n).size = s.size + 1 + (Ch.dec n).size := by rw [ByteArray.size_append, ByteArray.size_append]; rfl
    simp only [List.length_cons]
    omega

theorem join_any (NM : ByteArray) (ns : List Nat) (B m c : Nat) (a : Option Addr) (w : World) (own : w.ownsRow B 9 1 (.slice a m c) m (scells (NM :: ns.map Ch.dec))) (hm : m ≤ 3) (h9 : ∀ n ∈ ns, n ≤ 9999) (hN : NM.size ≤ 20) :
    Calls Tryd.prog 36 #[.slice a m c, .string ⟨#[32]⟩] w fun e w' => e = .returned (.string (Ch.line NM ns)) ∧ Below w.heap.size w w' := by
  have hlen : m = ns.length + 1 := by have := own.1; simp [scells] at this; omega
  have hc := owns_cells own
  rcases own.2 with ⟨_, h0⟩ | ⟨g, cap, cur, hv, hB, hg, h1, h2, h3, h4⟩
  · omega
  · simp only [Value.slice.injEq, true_and] at hv
    obtain ⟨rfl, rfl⟩ := hv
    have hsz := line_size ns NM h9
    have hj := line_join NM ns
    have hjl : (Lib.join ((NM :: ns.map Ch.dec).map (·.data.toList)) [32]).length = (Ch.line NM ns).size := by
      rw [← hj]
      show _ = (Lib.join ((NM :: ns.map Ch.dec).map (·.data.toList)) [32]).toArray.size
      simp
    have C := Any.strings_Join Tryd.lays156 Tryd.extra156 g 0 c (NM :: ns.map Ch.dec) ⟨#[32]⟩ w (fun j y hy => by
        obtain ⟨b, off, e0, hcc⟩ := hc.2 (by omega)
        simp only [Option.some.injEq, Addr.mk.injEq, and_true] at e0
        obtain ⟨rfl, rfl⟩ := e0
        have hjl : j < (NM :: ns.map Ch.dec).length := (List.getElem?_eq_some_iff.1 hy).1
        rw [hcc j (by simp at hjl; omega)]
        unfold scells
        rw [List.getElem?_map, hy]
        rfl) (Array.getElem?_eq_some_iff.1 hg).1 (by simp; omega) (by simp; omega) (by rw [hjl]; omega)
    rw [ren156_f] at C
    have hl2 : (NM :: ns.map Ch.dec).length = m := by simp; omega
    rw [hl2] at C
    refine C.mono ?_
    rintro e w' ⟨rfl, b1⟩
    exact ⟨by rw [← hj], b1⟩

set_option maxHeartbeats 2000000 in
theorem tell_any (NM : ByteArray) (A : Option Addr) (n c g x y z : Nat) (kv : Value) (fs : List Nat) (w : World) (h : CellsAt w A (n * 1) (ncells fs)) (hn : n ≤ 2) (hf : ∀ i, fs.getD i 0 ≤ 2) (hN : NM.size ≤ 20)
    (ho : w.heap[g]? = some (.cells #[kv, .int .i64 x, .int .i64 y, .int .i64 z] 27 (0, 0))) (hx : x ≤ 9999) (hy : y ≤ 9999) (hz : z ≤ 9999) (ht : Tab w) :
    Calls Tryd.prog 20 #[.string NM, .slice A n c, .func (.func 21) #[] #[.pointer (some ⟨g, 0, none⟩)]] w fun e w' => e = .returned (.string (Ch.line NM (fs.map fun f => Ch.at3 f x y z))) ∧ Below w.heap.size w w' := by
  obtain ⟨i0, hi0, hz0, hz1, hz2⟩ := info_parts Tryd.infoS
  have HL : Hid (n = fs.length) := by have := h.ilen.out; simp at this; exact this
  have own0 : (w.alloc (.cells #[.string NM] 9)).ownsRow w.heap.size 9 1 (.slice (some ⟨w.heap.size, 0, none⟩) 1 1) 1 (scells (NM :: (([] : List Nat).map fun f => Ch.dec (Ch.at3 f x y z)))) :=
    World.ownsRow_lit w #[.string NM] 1 (Nat.le_refl _) (by unfold maxLen; omega) (by simp)
  have bb0 : Below w.heap.size w (w.alloc (.cells #[.string NM] 9)) := (Below.refl _ _).alloc (Nat.le_refl _) _
  go_enter Tryd.func20, Tryd.ntmps20
  go_wp2
  go_loopw [7, 14] (fun v i wr => ∃ (k : Nat) (a' : Option Addr) (c' : Nat), k ≤ n ∧ v = .slice a' (k + 1) c' ∧ i = .int .i64 k ∧ wr.ownsRow w.heap.size 9 1 (.slice a' (k + 1) c') (k + 1) (scells (NM :: ((fs.take k).map fun f => Ch.dec (Ch.at3 f x y z)))) ∧ w.heap.size ≤ wr.heap.size ∧ Below w.heap.size w wr) (fun _ i _ => n - (intOf i).toNat)
  case atStart => exact ⟨0, _, _, Nat.zero_le _, rfl, rfl, own0, bb0.size, bb0⟩
  case round =>
    clear own0 bb0
    obtain ⟨k, a', c', hk, rfl, rfl, own, hsz, hB⟩ := hrel
    by_cases hlt : k < n
    · have hkl : k < fs.length := by have := HL.out; omega
      obtain ⟨b, off, rfl, hc0⟩ := (h.below hB).nat hlt
      have hf0 := hf k
      have HS : Hid ((fs.take (k + 1)).map (fun f => Ch.dec (Ch.at3 f x y z)) = (fs.take k).map (fun f => Ch.dec (Ch.at3 f x y z)) ++ [Ch.dec (Ch.at3 (fs.getD k 0) x y z)]) := by
        show _ = _
        rw [Ch.take_snoc fs 0 k hkl, List.map_append]
        rfl
      have hbl := lt_of_cell hc0
      generalize fs.getD k 0 = f at *
      have WD := fun W h1 h2 => word_any f g x y z kv W hf0 h1 hx hy hz h2
      generalize Ch.dec (Ch.at3 f x y z) = D at *
      generalize (fs.take k).map (fun f => Ch.dec (Ch.at3 f x y z)) = zs at *
      have hor := block_belowW (b := g) hB ho
      have htr := ht.below hB
      have hsum : (k + 1) + 1 ≤ 4194304 := by omega
      go_wp2_with (first | (go_at_call 21; refine (WD _ hor htr).mono ?_; rintro e w1 ⟨rfl, b1⟩; have own3 := owns_below (owns_below own b1) ((Below.refl w1.heap.size w1).alloc (o := .cells #[.string D] 9) (Nat.le_refl _)); have hC3 := new_strT w1 D 9; have hb3 : w.heap.size ≤ (w1.alloc (.cells #[.string D] 9)).heap.size := by (have := b1.size; simp; omega)) | (at_builtin; go_must (refine wpList_appX Tryd.underlying31 Tryd.underlying31 hi0 hz0 hz1 hz2 rfl (by omega) (by omega) (.tmp 18) (.tmp 22) ?_ ?_ w.heap.size (.slice a' (k + 1) c') (k + 1) (scells (NM :: zs)) _ 1 1 (scells [D]) ?_ ?_ own3 hC3 (scells_one' [D]) hsum hb3 ?_; exact rfl; exact rfl; exact rfl; exact rfl; intro a5 c5 w5 own5 gr5 at5; go_frame)))
      go_roundw
      case rel =>
        have b3 : Below w.heap.size w (w1.alloc (.cells #[.string D] 9)) := (hB.trans (b1.mono hB.size)).alloc (by have := b1.size; omega) _
        have b5 := b3.grown gr5 b3.size (fun g hg => by have := (owns_lt own3 g hg).1; omega)
        have own6 : w5.ownsRow w.heap.size 9 1 (.slice a5 (k + 1 + 1) c5) (k + 1 + 1) (scells (NM :: ((fs.take (k + 1)).map fun f => Ch.dec (Ch.at3 f x y z)))) := by
          rw [HS.out]
          rw [← scells_append] at own5
          exact own5
        exact ⟨k + 1, a5, c5, by omega, rfl, by go_num, own6, b5.size, b5⟩
      case measure => simp [intOf]; omega
    · obtain rfl : k = n := by omega
      have HWF : Hid (fs.take k = fs) := by have := HL.out; show _ = _; rw [this]; exact List.take_length
      rw [HWF.out] at own
      have HM : Hid (fs.map (fun f => Ch.dec (Ch.at3 f x y z)) = (fs.map fun f => Ch.at3 f x y z).map Ch.dec) := by show _ = _; rw [List.map_map]; rfl
      rw [HM.out] at own
      have h9 : ∀ v ∈ fs.map (fun f => Ch.at3 f x y z), v ≤ 9999 := by
        intro v hv
        obtain ⟨f, _, rfl⟩ := List.mem_map.1 hv
        unfold Ch.at3
        split
        · exact hx
        · split <;> omega
      have JN := join_any NM _ w.heap.size (k + 1) c' a' wr own (by omega) h9 hN
      go_wp2_with (go_at_call 36; refine JN.mono ?_; rintro e w1 ⟨rfl, b1⟩)
      go_ret
      exact ⟨rfl, hB.trans (b1.mono hB.size)⟩
end Go.Proofs.YtalhmogaogaekaaDoor
