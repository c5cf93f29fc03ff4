/- WordsOf of the program. -/
import Derived.Test.YtalhmogaogaekaaDoorStrA
import Derived.Ground.SlbSplitProg
import Derived.Shelf.Lay
import Derived.Shelf.Bytes.SlSplit
import Derived.Lib.BufferWrite
import Derived.Lib.SlBytesConst
namespace Go.Proofs.YtalhmogaogaekaaDoor
open Go.RowKit Go.Shelf

shelf_lay SlLaysP.n7 Slp 7 at Tryd as Tryd.lays7

theorem ren7_f : Tryd.lays7_ren.f 7 = 25 := by decide
theorem ren7_t : Tryd.lays7_ren.t 22 = 58 := by decide

/-- A string's bytes as numbers. -/
def nums (s : ByteArray) : List Int := s.data.toList.map fun b => (b.toNat : Int)
theorem nums_len (s : ByteArray) : (nums s).length = s.size := by rw [nums, List.length_map, Array.length_toList]; rfl
theorem nums_cells (s : ByteArray) : Lib.byteCells s.data.toList = bts (nums s) := by simp [Lib.byteCells, bts, nums, Function.comp_def]
theorem nums_byte (s : ByteArray) : ∀ x ∈ nums s, 0 ≤ x ∧ x < 256 := by
  intro x hx
  simp only [nums, List.mem_map] at hx
  obtain ⟨b, _, rfl⟩ := hx
  have := b.toNat_lt
  omega
theorem bytesOf_nums (s : ByteArray) : Lib.bytesOf (nums s) = s.data.toList := by
  unfold Lib.bytesOf nums
  rw [List.map_map]
  have : ((fun n : Int => UInt8.ofNat n.toNat) ∘ fun b : UInt8 => (b.toNat : Int)) = id := by
    funext b
    simp
  rw [this, List.map_id]

theorem Tryd.infoB : (Tryd.prog.info? 5).map (fun i => (i.zero, i.size, i.bytes)) = some (some (.int .u8 0), 1, 1) := by kernel_rfl

set_option maxHeartbeats 800000 in
theorem copyOf_any (s : ByteArray) (w : World) (hs : s.size ≤ 1048576) :
    Calls Tryd.prog 26 #[.string s] w fun e w' => e = .returned (.slice (some ⟨w.heap.size, 0, none⟩) s.size s.size) ∧
      CellsAt w' (some ⟨w.heap.size, 0, none⟩) s.size (bts (nums s)) ∧ w.heap.size < w'.heap.size ∧ Below w.heap.size w w' := by
  obtain ⟨i0, hi, hz0, hz1, hz2⟩ := info_parts Tryd.infoB
  have hn := nums_len s
  have hcl := nums_cells s
  generalize nums s = zs at *
  replace hn := hid hn
  replace hcl := hid hcl
  go_enter Tryd.func26, Tryd.ntmps26
  go_wp2_with (at_make; refine wpList_make_full _ rfl _ _ 58 rfl w.heap.size 5 i0 (.int .u8 0) 1 Tryd.underlying58 hi hz0 hz1 .i64 .i64 _ _ s.size rfl rfl rfl rfl (by rw [hz2]; omega) (by unfold maxLen; omega) (Nat.le_refl _) ?_; intro w0 hown0 hgrow0; rcases hown0.2 with ⟨hv, _⟩ | ⟨g, cp, cur, hv, hB, hg, hc1, hc2, hc3, hc4⟩; exact absurd hv (by simp); simp only [Value.slice.injEq, Option.some.injEq, Addr.mk.injEq, true_and, and_true] at hv; obtain ⟨rfl, rfl⟩ := hv; have hcp := Lib.run_copy_row_string (P := Tryd.prog) w0 58 9 3 5 w.heap.size 0 s.size s.size s cur 5 Tryd.underlying58 (by rw [hi]; simp [hz1]) hg (Nat.le_refl _) (by omega); go_frame)
  have hB0 : Below w.heap.size w w0 := (Below.refl _ _).grown hgrow0 (Nat.le_refl _) (by simp)
  have hw1 := setRow_heap w0 w.heap.size cur (Lib.byteCells s.data.toList ++ List.drop s.size cur.toList).toArray 5 (0, 0) hg
  have hc := fun j => cell_setRow_same w0 w.heap.size j cur (Lib.byteCells s.data.toList ++ List.drop s.size cur.toList).toArray 5 (0, 0) hg
  go_ret
  refine ⟨rfl, ⟨?_, fun hm => ⟨w.heap.size, 0, rfl, fun i hi => ?_⟩⟩, ?_, ?_⟩
  · simp [bts, hn.out]
  · rw [hc (0 + i), hcl.out]
    have hz : (bts zs).length = s.size := by simp [bts, hn.out]
    rw [List.getElem?_toArray, List.getElem?_append_left (by omega)]
    simp
  · rw [setRow_size]; exact (Array.getElem?_eq_some_iff.1 hg).1
  · exact hB0.trans ⟨rfl, rfl, rfl, by simp, fun k hk => setRow_other w0 _ k _ (by omega)⟩

theorem strOf_nums (x : ByteArray) : strOfNums (nums x) = x := by
  have h : (strOfNums (nums x)).data.toList = x.data.toList := by rw [← Lib.toList_data, Lib.strOfNums_toList, bytesOf_nums]
  obtain ⟨⟨l⟩⟩ := x
  have : (strOfNums (nums ⟨⟨l⟩⟩)).data = ⟨l⟩ := Array.toList_inj.1 h
  exact congrArg ByteArray.mk this

/-- The pieces of a split, where they lie and what they are as strings. -/
theorem split_piece {W : World} {g : Nat} {s : ByteArray} (h : CellsAt W (some ⟨g, 0, none⟩) s.size (bts (nums s))) :
    (Lib.splitV [32] 0 (Lib.count s.data.toList [32]) ⟨g, 0, none⟩ s.size s.data.toList).length = (Ch.pieces s).length ∧
    ∀ j, j < (Ch.pieces s).length → ∃ a' cp, (Lib.splitV [32] 0 (Lib.count s.data.toList [32]) ⟨g, 0, none⟩ s.size s.data.toList)[j]? = some (.slice (some a') ((Ch.pieces s).getD j ⟨#[]⟩).size cp) ∧
      (0 < ((Ch.pieces s).getD j ⟨#[]⟩).size → ∀ W', Below W.heap.size W W' → (convert 58 9 (.slice (some a') ((Ch.pieces s).getD j ⟨#[]⟩).size cp)).run Tryd.prog W' = .ok (.string ((Ch.pieces s).getD j ⟨#[]⟩)) W') := by
  have hsp : Lib.splitK [32] 0 (Lib.count s.data.toList [32]) s.data.toList = Ch.cutL 32 s.data.toList := Ch.split_cut 32 _ s.data.toList (Nat.le_refl _)
  have hlen : (Lib.splitV [32] 0 (Lib.count s.data.toList [32]) ⟨g, 0, none⟩ s.size s.data.toList).length = (Ch.pieces s).length := by
    rw [Lib.splitV_length, hsp]
    simp [Ch.pieces]
  refine ⟨hlen, fun j hj => ?_⟩
  have hsz : s.data.toList.length = s.size := by rw [Array.length_toList]; rfl
  obtain ⟨v, hv⟩ : ∃ v, (Lib.splitV [32] 0 (Lib.count s.data.toList [32]) ⟨g, 0, none⟩ s.size s.data.toList)[j]? = some v := ⟨_, List.getElem?_eq_getElem (by omega)⟩
  obtain ⟨a', off, len, cp, rfl, h1, h2, h3, h4⟩ := Lib.splitV_spec [32] 0 (by simp) (by simp) _ _ _ _ (by omega) j v hv
  rw [hsp] at h3
  have hx : (Ch.pieces s).getD j ⟨#[]⟩ = Ch.mkB ((s.data.toList.drop off).take len) := by
    simp [Ch.pieces, List.getD, List.getElem?_map, h3]
  have hxs : ((Ch.pieces s).getD j ⟨#[]⟩).size = len := by
    rw [hx]
    show ((s.data.toList.drop off).take len).toArray.size = len
    simp
    omega
  refine ⟨a', cp, by rw [hv, hxs], fun hpos W' hW' => ?_⟩
  rw [hxs] at hpos
  have ha : a' = ⟨g, off, none⟩ := by
    have := h4 0 hpos
    rw [addr_add, Nat.zero_add, Nat.add_zero] at this
    rw [← this]
    rfl
  subst ha
  have hcv := run_convert_bytes_arg (P := Tryd.prog) W' 58 5 Tryd.underlying58 Tryd.underlying5 g off len cp (nums ((Ch.pieces s).getD j ⟨#[]⟩)) (by rw [nums_len, hxs]) (fun i hi => by
    obtain ⟨b, o, e0, hc⟩ := (h.below hW').2 (by omega)
    simp only [Option.some.injEq, Addr.mk.injEq, and_true] at e0
    obtain ⟨rfl, rfl⟩ := e0
    have := hc (off + i) (by omega)
    rw [Nat.zero_add] at this
    rw [this, hx]
    have hl : off + i < s.data.toList.length := by omega
    have hl2 : i < ((s.data.toList.drop off).take len).length := by simp; omega
    simp only [bts, nums, Ch.mkB, List.getElem?_map, List.getElem?_eq_getElem hl, Option.map_some, List.getD, List.getElem?_eq_getElem hl2, Option.getD_some, List.getElem_take, List.getElem_drop]) 9 Tryd.underlying9
  rw [strOf_nums] at hcv
  rw [hxs]
  exact hcv

/-- Block b holds the bytes of s, the cells of block g its pieces. -/
def SplitAt (W : World) (b g : Nat) (s : ByteArray) : Prop := CellsAt W (some ⟨b, 0, none⟩) s.size (bts (nums s)) ∧
  ∀ (j : Nat) (v : Value), (Lib.splitV [32] 0 (Lib.count s.data.toList [32]) ⟨b, 0, none⟩ s.size s.data.toList)[j]? = some v → W.cell? ⟨g, j, none⟩ = some v
theorem cell_of_block {W V : World} {b o : Nat} (h : V.heap[b]? = W.heap[b]?) : V.cell? ⟨b, o, none⟩ = W.cell? ⟨b, o, none⟩ := by simp [World.cell?, h]
theorem SplitAt.keep {W V : World} {b g : Nat} {s : ByteArray} (h : SplitAt W b g s) (hb : V.heap[b]? = W.heap[b]?) (hg : V.heap[g]? = W.heap[g]?) : SplitAt V b g s := by
  refine ⟨⟨h.1.1, fun hm => ?_⟩, fun j v hj => (cell_of_block hg).trans (h.2 j v hj)⟩
  obtain ⟨b', o, e0, hc⟩ := h.1.2 hm
  simp only [Option.some.injEq, Addr.mk.injEq, and_true] at e0
  obtain ⟨rfl, rfl⟩ := e0
  exact ⟨b, 0, rfl, fun i hi => (cell_of_block hb).trans (hc i hi)⟩
theorem SplitAt.at {W : World} {b g : Nat} {s : ByteArray} (h : SplitAt W b g s) {j : Nat} (hj : j < (Ch.pieces s).length) : ∃ a' cp, W.cell? ⟨g, j, none⟩ = some (.slice (some a') ((Ch.pieces s).getD j ⟨#[]⟩).size cp) ∧
    (0 < ((Ch.pieces s).getD j ⟨#[]⟩).size → (convert 58 9 (.slice (some a') ((Ch.pieces s).getD j ⟨#[]⟩).size cp)).run Tryd.prog W = .ok (.string ((Ch.pieces s).getD j ⟨#[]⟩)) W) := by
  obtain ⟨_, hp⟩ := split_piece h.1
  obtain ⟨a', cp, h1, h2⟩ := hp j hj
  exact ⟨a', cp, h.2 j _ h1, fun hpos => h2 hpos W (Below.refl _ _)⟩

theorem split_any (g b c2 : Nat) (s : ByteArray) (m : Int) (W : World) (hs : s.size ≤ 1048576) (h : CellsAt W (some ⟨g, 0, none⟩) s.size (bts (nums s))) (hb : W.cell? ⟨b, 0, none⟩ = some (.int .u8 32)) (hm : W.cell? ⟨Tryd.lays7_ren.g 2, 0, none⟩ = some (.int .i64 m)) :
    Calls Tryd.prog 25 #[.slice (some ⟨g, 0, none⟩) s.size s.size, .slice (some ⟨b, 0, none⟩) 1 c2] W fun e w' => e = .returned (.slice (some ⟨W.heap.size, 0, none⟩) (Ch.pieces s).length (Ch.pieces s).length) ∧ SplitAt w' g W.heap.size s ∧ W.heap.size < w'.heap.size ∧ Below W.heap.size W w' := by
  have C := Any.bytes_Split Tryd.lays7 ⟨g, 0, none⟩ ⟨b, 0, none⟩ s.size s.size 1 c2 (nums s) [32] m W (nums_len s) rfl (nums_byte s) (by intro y hy; simp at hy; omega) (fun i hi => by
      obtain ⟨b', o, e0, hc⟩ := h.2 (by omega)
      simp only [Option.some.injEq, Addr.mk.injEq, and_true] at e0
      obtain ⟨rfl, rfl⟩ := e0
      rw [addr_add, hc i hi]
      have : i < (nums s).length := by rw [nums_len]; exact hi
      simp [bts, List.getD, this]) (fun i hi => by
      obtain rfl : i = 0 := by omega
      rw [addr_add]
      simpa using hb) (Nat.le_refl _) (by omega) (by decide) (by omega) (by decide) hm
  rw [ren7_f, ren7_t, bytesOf_nums] at C
  have e32 : Lib.bytesOf [32] = [32] := rfl
  rw [e32] at C
  have hcnt : Lib.count s.data.toList [32] + 1 = (Ch.pieces s).length := by
    have h1 := Ch.split_cut 32 _ s.data.toList (Nat.le_refl _)
    have h2 := Lib.splitB_all (strOfNums [32]) (by rw [strOfNums_size]; decide) 0 _ (strOfNums (nums s)) rfl
    have d := congrArg List.length (Lib.splitB_data (strOfNums [32]) 0 (Lib.countB (strOfNums (nums s)) (strOfNums [32])) (strOfNums (nums s)))
    rw [List.length_map, h2] at d
    rw [strOf_nums] at d
    have e1 : (strOfNums [32]).data.toList = [32] := by rw [← Lib.toList_data, Lib.strOfNums_toList]; rfl
    unfold Lib.countB at d
    rw [e1] at d
    unfold Lib.split at h1
    rw [h1] at d
    simp only [Ch.pieces, List.length_map]
    exact d
  refine C.mono ?_
  rintro e w' ⟨rfl, q, rfl⟩
  rw [hcnt]
  have hB : Below W.heap.size W ((W.alloc (.cells (Lib.splitV [32] 0 (Lib.count s.data.toList [32]) ⟨g, 0, none⟩ s.size s.data.toList).toArray 58)).drewN q) := below_drewN ((Below.refl _ _).alloc (Nat.le_refl _) _) q
  refine ⟨rfl, ⟨h.below hB, fun j v hj => ?_⟩, by simp, hB⟩
  have h2 := heap_alloc_new W (.cells (Lib.splitV [32] 0 (Lib.count s.data.toList [32]) ⟨g, 0, none⟩ s.size s.data.toList).toArray 58)
  show (W.alloc (.cells (Lib.splitV [32] 0 (Lib.count s.data.toList [32]) ⟨g, 0, none⟩ s.size s.data.toList).toArray 58)).cell? ⟨W.heap.size, j, none⟩ = some v
  unfold World.cell?
  rw [h2]
  simpa using hj
end Go.Proofs.YtalhmogaogaekaaDoor
