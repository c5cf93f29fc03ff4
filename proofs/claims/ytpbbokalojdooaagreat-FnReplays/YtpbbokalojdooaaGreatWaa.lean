import Derived.Test.YtpbbokalojdooaaGreatProg
import Derived.SizedLaws
import Derived.WalkKit
import Derived.WalkLawsBesides
import Derived.WalkSpells
import Derived.ChangeOld
import Derived.Deep.Fields
import Derived.Lib.SmallJoins
import Derived.OpenShut
import Derived.ProofKit
import Derived.BigQuiet
import Derived.Deep.AppendLies
import Derived.Deep.QuietTactic
import Derived.Deep.RegionHeld3
import Derived.Deep.RegionWith
import Derived.Laws.BitsAllLaws
import Derived.Lib.SliceRun
import Derived.Deep.RegionLaw
import Derived.Laws.Externs
import Derived.Laws.IdiomCopy
import Derived.Laws.NewBlocks
import Derived.Lib.AppendZerosOnto
import Derived.Lib.Overlaps
import Derived.Maps.OwnOps
import Derived.Maps.OwnSet
import Derived.Deep.Cut
import Derived.Lib.AppendZeros
import Derived.Maps.AppendAt
import Derived.Deep.DeepCutAuto
import Derived.Deep.WholeRow
import Derived.Great.Walk
import Derived.ChangeKeysEq
import Derived.Laws.StructEq
import Derived.Laws.CopyOwn
import Derived.LoopIn
import Derived.LoopNIn
import Derived.OwnWalkIn
import Derived.RangeFuncBound
import Derived.RangeFuncBox
import Derived.RangeFuncCalls
import Derived.RangeFuncLeaves
import Derived.RangeFuncNested
import Derived.Shelf.Abstract
import Derived.TacticsInMore
import Derived.OrdersHeld
import Derived.Deep.RegionLawGrows
import Derived.Great.Frames
import Derived.Sort.OwnSorted
import Derived.Deep.LoopGhost
import Derived.Maps.RangeWalk
import Derived.Defers
import Derived.Recover
import Derived.Laws.Small
import Derived.Deep.CutBlock
import Derived.Laws.Tables
import Derived.Maps.OwnIn
import Derived.Lib.SlicesCompact
import Derived.Lib.OwnBridge
import Derived.Shelf.SlicesG.CompactI
import Derived.Shelf.RegionOpen
namespace Go.Proofs.YtpbbokalojdooaaGreat
open Go.RowKit
set_option linter.unusedSimpArgs false
set_option linter.unusedVariables false
set_option maxRecDepth 20000
set_option maxHeartbeats 8000000
namespace Ch
end Ch
theorem pF{P:Program}{l:List Oper}{Q:Exit->Act->World->Prop}{md:Region.Mode}{S:World->Prop}{i:Nat}{oi:Oper}{v:Value}{fuel:Nat}{listed:Array Bool}{a:Act}{w:World}(hi:l[i]? =some oi)
  (hs:Region.noSelect l.toArray=true) (hf:Region.free md l.toArray listed i=true) (hr:(Region.ready md l.toArray listed).contains i=true)
  (hw:Region.wanted oi (yielded l.toArray a.tmps)=true) (hy:∀W,S W->(execOp a.eval oi).run P W= .ok (.value v) W) (hS:S w)
  (h:wpAnyH P md l.toArray (NoPanic Q) S fuel (listed.setIfInBounds i true) (a.put oi.dst v) w):wpAnyH P md l.toArray (NoPanic Q) S (fuel+1) listed a w:=
 wpAnyH_take (by simpa using hi) hs hf hr (fun _ _ _ h=>h) (Or.inl ⟨hw,hy⟩) hS h
theorem hSkip{P:Program}{l:List Oper}{Q:Exit->Act->World->Prop}{md:Region.Mode}{S:World->Prop}{i:Nat}{oi:Oper}{fuel:Nat}{listed:Array Bool}{a:Act}{w:World}(hi:l[i]? =some oi)
  (hs:Region.noSelect l.toArray=true) (hf:Region.free md l.toArray listed i=true) (hr:(Region.ready md l.toArray listed).contains i=true)
  (hw:Region.wanted oi (yielded l.toArray a.tmps)=false) (hS:S w)
  (h:wpAnyH P md l.toArray (NoPanic Q) S fuel (listed.setIfInBounds i true) (a.put oi.dst undef) w):wpAnyH P md l.toArray (NoPanic Q) S (fuel+1) listed a w:=
 wpAnyH_take (by simpa using hi) hs hf hr (fun _ _ _ h=>h) (Or.inr ⟨hw,rfl⟩) hS h
theorem R8{P:Program}{l:List Oper}{Q:Exit->Act->World->Prop}{md:Region.Mode}{S:World->Prop}{oi:Oper}{v:Value}{fuel:Nat}{listed:Array Bool}{a:Act}{w:World}(i:Nat)(hS:S w:=by assumption)(hi:l[i]? =some oi:=by rfl)
  (hs:Region.noSelect l.toArray=true:=by kernel_rfl) (hf:Region.free md l.toArray listed i=true:=by kernel_rfl) (hr:(Region.ready md l.toArray listed).contains i=true:=by kernel_rfl)
  (hw:Region.wanted oi (yielded l.toArray a.tmps)=true:=by rfl) (hy:∀W,S W->(execOp a.eval oi).run P W= .ok (.value v) W:=by intro W hW;(try dsimp only at hW);go_simp<;>with_reducible rfl)
  (h:wpAnyH P md l.toArray (NoPanic Q) S fuel (listed.setIfInBounds i true) (a.put oi.dst v) w):wpAnyH P md l.toArray (NoPanic Q) S (fuel+1) listed a w:=
 pF hi hs hf hr hw hy hS h
theorem R9{P:Program}{l:List Oper}{Q:Exit->Act->World->Prop}{md:Region.Mode}{S:World->Prop}{oi:Oper}{fuel:Nat}{listed:Array Bool}{a:Act}{w:World}(i:Nat)(hS:S w:=by assumption)(hi:l[i]? =some oi:=by rfl)
  (hs:Region.noSelect l.toArray=true:=by kernel_rfl) (hf:Region.free md l.toArray listed i=true:=by kernel_rfl) (hr:(Region.ready md l.toArray listed).contains i=true:=by kernel_rfl)
  (hw:Region.wanted oi (yielded l.toArray a.tmps)=false:=by rfl)
  (h:wpAnyH P md l.toArray (NoPanic Q) S fuel (listed.setIfInBounds i true) (a.put oi.dst undef) w):wpAnyH P md l.toArray (NoPanic Q) S (fuel+1) listed a w:=
 wpAnyH_take (by simpa using hi) hs hf hr (fun _ _ _ h=>h) (Or.inr ⟨hw,rfl⟩) hS h
theorem R6{P:Program}{l:List Oper}{Q:Exit->Act->World->Prop}{md:Region.Mode}{S:World->Prop}{o:Oper}{fuel:Nat}{listed:Array Bool}{a:Act}{w:World}(i:Nat)
  (h:∀K':Act->World->Prop,Shut (∀a w,S w->(S w->wpAnyH P md l.toArray Q S fuel (listed.setIfInBounds i true) a w)->K' a w)->if Region.wanted o (yielded l.toArray a.tmps)=true then Oper.wp P o a w K' Q else K' (a.put o.dst undef) w)
  (ho:l[i]? =some o:=by rfl) (hr:Region.ready md l.toArray listed=[i]:=by kernel_rfl):wpAnyH P md l.toArray Q S (fuel+1) listed a w:=
 wpAnyH_ready hr (by simp) (AllReadyH.cons (by simpa using ho) h AllReadyH.nil)
theorem R7{P:Program}{l:List Oper}{Q:Exit->Act->World->Prop}{md:Region.Mode}{S:World->Prop}{fuel:Nat}{listed:Array Bool}{a:Act}{w:World}(h:Q .normal a w)(hr:Region.ready md l.toArray listed=[]:=by kernel_rfl):wpAnyH P md l.toArray (NoPanic Q) S fuel listed a w:=
 wpAnyH_done hr (NoPanic.normal h) _
theorem R0{P:Program}{ops:Array Oper}{Q:Exit->Act->World->Prop}{id:Nat}{a:Act}{w:World}(S:World->Prop)(hS:S w.drew)(h:S w.drew->wpAnyH P .any ops (NoPanic Q) S ops.size (Array.replicate ops.size false) a w.drew)(hm:P.follows .mixedOrders=true:=by kernel_rfl):(Code.region id ops true).wp P Q a w:=
 wp_region_noPanic (wp_region_held_drew (S:=S) hm hS h)
theorem J3{P:Program}{ops:Array Oper}{Q:Exit->Act->World->Prop}{md:Region.Mode}{S:World->Prop}{fuel:Nat}{L L':Array Bool}{a a':Act}{w:World}(h:wpAnyH P md ops Q S fuel L' a' w)
  (hl:L=L':=by(try simp only[List.setIfInBounds_toArray,List.set_cons_zero,List.set_cons_succ]);(try rfl)) (ha:a=a':=by(try simp only[Act.put,List.setIfInBounds_toArray,List.set_cons_zero,List.set_cons_succ]);(try rfl)):wpAnyH P md ops Q S fuel L a w:=by
 rw[hl,ha];exact h
theorem J1{P:Program}{l:List Oper}{Q:Exit->Act->World->Prop}{md:Region.Mode}{S:World->Prop}{o:Oper}{fuel:Nat}{listed:Array Bool}{a:Act}{w:World}(i:Nat)
  (h:∀K':Act->World->Prop,Shut (∀a w,S w->(S w->wpAnyH P md l.toArray Q S fuel (listed.setIfInBounds i true) a w)->K' a w)->if Region.wanted o (yielded l.toArray a.tmps)=true then Oper.wp P o a w K' Q else K' (a.put o.dst undef) w)
  (ho:l[i]? =some o:=by rfl) (hr:Region.ready md l.toArray listed=[i]:=by kernel_rfl):wpAnyH P md l.toArray Q S (fuel+1) listed a w:=
 wpAnyH_ready hr (by simp) (AllReadyH.cons (by simpa using ho) h AllReadyH.nil)
theorem J2{P:Program}{l:List Oper}{Q:Exit->Act->World->Prop}{md:Region.Mode}{S:World->Prop}{o o':Oper}{fuel:Nat}{listed:Array Bool}{a:Act}{w:World}(i j:Nat)
  (h:∀K':Act->World->Prop,Shut (∀a w,S w->(S w->wpAnyH P md l.toArray Q S fuel (listed.setIfInBounds i true) a w)->K' a w)->if Region.wanted o (yielded l.toArray a.tmps)=true then Oper.wp P o a w K' Q else K' (a.put o.dst undef) w)
  (h':∀K':Act->World->Prop,Shut (∀a w,S w->(S w->wpAnyH P md l.toArray Q S fuel (listed.setIfInBounds j true) a w)->K' a w)->if Region.wanted o' (yielded l.toArray a.tmps)=true then Oper.wp P o' a w K' Q else K' (a.put o'.dst undef) w)
  (ho:l[i]? =some o:=by rfl) (ho':l[j]? =some o':=by rfl) (hr:Region.ready md l.toArray listed=[i,j]:=by kernel_rfl):wpAnyH P md l.toArray Q S (fuel+1) listed a w:=
 wpAnyH_ready hr (by simp) (AllReadyH.cons (by simpa using ho) h (AllReadyH.cons (by simpa using ho') h' AllReadyH.nil))
theorem R1{P:Program}{l:List Oper}{Q:Exit->Act->World->Prop}{md:Region.Mode}{S:World->Prop}{fuel:Nat}{L L':Array Bool}{a a':Act}{w:World}{o0:Oper}{v0:Value}(i0:Nat)(h:wpAnyH P md l.toArray (NoPanic Q) S fuel L' a' w)(hS:S w:=by assumption)
    (b0:l[i0]? =some o0:=by rfl) (c0:Region.noSelect l.toArray=true:=by kernel_rfl) (d0:Region.free md l.toArray L i0=true:=by kernel_rfl) (e0:(Region.ready md l.toArray L).contains i0=true:=by kernel_rfl) (f0:Region.wanted o0 (yielded l.toArray a.tmps)=true:=by rfl) (g0:∀W,S W->(execOp a.eval o0).run P W= .ok (.value v0) W:=by intro W hW;(try dsimp only at hW);go_simp<;>with_reducible rfl)
    (hl:(L.setIfInBounds i0 true)=L':=by(try simp only[List.setIfInBounds_toArray,List.set_cons_zero,List.set_cons_succ]);(try rfl)) (ha:(a.put o0.dst v0)=a':=by(try simp only[Act.put,List.setIfInBounds_toArray,List.set_cons_zero,List.set_cons_succ]);(try rfl)):
    wpAnyH P md l.toArray (NoPanic Q) S (fuel+1) L a w:=by
  subst hl ha;exact pF b0 c0 d0 e0 f0 g0 hS (h)
theorem R2{P:Program}{l:List Oper}{Q:Exit->Act->World->Prop}{md:Region.Mode}{S:World->Prop}{fuel:Nat}{L L':Array Bool}{a a':Act}{w:World}{o0 o1:Oper}{v0 v1:Value}(i0 i1:Nat)(h:wpAnyH P md l.toArray (NoPanic Q) S fuel L' a' w)(hS:S w:=by assumption)
    (b0:l[i0]? =some o0:=by rfl) (c0:Region.noSelect l.toArray=true:=by kernel_rfl) (d0:Region.free md l.toArray L i0=true:=by kernel_rfl) (e0:(Region.ready md l.toArray L).contains i0=true:=by kernel_rfl) (f0:Region.wanted o0 (yielded l.toArray a.tmps)=true:=by rfl) (g0:∀W,S W->(execOp a.eval o0).run P W= .ok (.value v0) W:=by intro W hW;(try dsimp only at hW);go_simp<;>with_reducible rfl)
    (b1:l[i1]? =some o1:=by rfl) (c1:Region.noSelect l.toArray=true:=by kernel_rfl) (d1:Region.free md l.toArray (L.setIfInBounds i0 true) i1=true:=by kernel_rfl) (e1:(Region.ready md l.toArray (L.setIfInBounds i0 true)).contains i1=true:=by kernel_rfl) (f1:Region.wanted o1 (yielded l.toArray (a.put o0.dst v0).tmps)=true:=by rfl) (g1:∀W,S W->(execOp (a.put o0.dst v0).eval o1).run P W= .ok (.value v1) W:=by intro W hW;(try dsimp only at hW);go_simp<;>with_reducible rfl)
    (hl:((L.setIfInBounds i0 true).setIfInBounds i1 true)=L':=by(try simp only[List.setIfInBounds_toArray,List.set_cons_zero,List.set_cons_succ]);(try rfl)) (ha:((a.put o0.dst v0).put o1.dst v1)=a':=by(try simp only[Act.put,List.setIfInBounds_toArray,List.set_cons_zero,List.set_cons_succ]);(try rfl)):
    wpAnyH P md l.toArray (NoPanic Q) S (fuel+1+1) L a w:=by
  subst hl ha;exact pF b0 c0 d0 e0 f0 g0 hS (pF b1 c1 d1 e1 f1 g1 hS (h))
theorem R3{P:Program}{l:List Oper}{Q:Exit->Act->World->Prop}{md:Region.Mode}{S:World->Prop}{fuel:Nat}{L L':Array Bool}{a a':Act}{w:World}{o0 o1 o2:Oper}{v0 v1 v2:Value}(i0 i1 i2:Nat)(h:wpAnyH P md l.toArray (NoPanic Q) S fuel L' a' w)(hS:S w:=by assumption)
    (b0:l[i0]? =some o0:=by rfl) (c0:Region.noSelect l.toArray=true:=by kernel_rfl) (d0:Region.free md l.toArray L i0=true:=by kernel_rfl) (e0:(Region.ready md l.toArray L).contains i0=true:=by kernel_rfl) (f0:Region.wanted o0 (yielded l.toArray a.tmps)=true:=by rfl) (g0:∀W,S W->(execOp a.eval o0).run P W= .ok (.value v0) W:=by intro W hW;(try dsimp only at hW);go_simp<;>with_reducible rfl)
    (b1:l[i1]? =some o1:=by rfl) (c1:Region.noSelect l.toArray=true:=by kernel_rfl) (d1:Region.free md l.toArray (L.setIfInBounds i0 true) i1=true:=by kernel_rfl) (e1:(Region.ready md l.toArray (L.setIfInBounds i0 true)).contains i1=true:=by kernel_rfl) (f1:Region.wanted o1 (yielded l.toArray (a.put o0.dst v0).tmps)=true:=by rfl) (g1:∀W,S W->(execOp (a.put o0.dst v0).eval o1).run P W= .ok (.value v1) W:=by intro W hW;(try dsimp only at hW);go_simp<;>with_reducible rfl)
    (b2:l[i2]? =some o2:=by rfl) (c2:Region.noSelect l.toArray=true:=by kernel_rfl) (d2:Region.free md l.toArray ((L.setIfInBounds i0 true).setIfInBounds i1 true) i2=true:=by kernel_rfl) (e2:(Region.ready md l.toArray ((L.setIfInBounds i0 true).setIfInBounds i1 true)).contains i2=true:=by kernel_rfl) (f2:Region.wanted o2 (yielded l.toArray ((a.put o0.dst v0).put o1.dst v1).tmps)=true:=by rfl) (g2:∀W,S W->(execOp ((a.put o0.dst v0).put o1.dst v1).eval o2).run P W= .ok (.value v2) W:=by intro W hW;(try dsimp only at hW);go_simp<;>with_reducible rfl)
    (hl:(((L.setIfInBounds i0 true).setIfInBounds i1 true).setIfInBounds i2 true)=L':=by(try simp only[List.setIfInBounds_toArray,List.set_cons_zero,List.set_cons_succ]);(try rfl)) (ha:(((a.put o0.dst v0).put o1.dst v1).put o2.dst v2)=a':=by(try simp only[Act.put,List.setIfInBounds_toArray,List.set_cons_zero,List.set_cons_succ]);(try rfl)):
    wpAnyH P md l.toArray (NoPanic Q) S (fuel+1+1+1) L a w:=by
  subst hl ha;exact pF b0 c0 d0 e0 f0 g0 hS (pF b1 c1 d1 e1 f1 g1 hS (pF b2 c2 d2 e2 f2 g2 hS (h)))
theorem R4{P:Program}{l:List Oper}{Q:Exit->Act->World->Prop}{md:Region.Mode}{S:World->Prop}{fuel:Nat}{L L':Array Bool}{a a':Act}{w:World}{o0 o1 o2 o3:Oper}{v0 v1 v2 v3:Value}(i0 i1 i2 i3:Nat)(h:wpAnyH P md l.toArray (NoPanic Q) S fuel L' a' w)(hS:S w:=by assumption)
    (b0:l[i0]? =some o0:=by rfl) (c0:Region.noSelect l.toArray=true:=by kernel_rfl) (d0:Region.free md l.toArray L i0=true:=by kernel_rfl) (e0:(Region.ready md l.toArray L).contains i0=true:=by kernel_rfl) (f0:Region.wanted o0 (yielded l.toArray a.tmps)=true:=by rfl) (g0:∀W,S W->(execOp a.eval o0).run P W= .ok (.value v0) W:=by intro W hW;(try dsimp only at hW);go_simp<;>with_reducible rfl)
    (b1:l[i1]? =some o1:=by rfl) (c1:Region.noSelect l.toArray=true:=by kernel_rfl) (d1:Region.free md l.toArray (L.setIfInBounds i0 true) i1=true:=by kernel_rfl) (e1:(Region.ready md l.toArray (L.setIfInBounds i0 true)).contains i1=true:=by kernel_rfl) (f1:Region.wanted o1 (yielded l.toArray (a.put o0.dst v0).tmps)=true:=by rfl) (g1:∀W,S W->(execOp (a.put o0.dst v0).eval o1).run P W= .ok (.value v1) W:=by intro W hW;(try dsimp only at hW);go_simp<;>with_reducible rfl)
    (b2:l[i2]? =some o2:=by rfl) (c2:Region.noSelect l.toArray=true:=by kernel_rfl) (d2:Region.free md l.toArray ((L.setIfInBounds i0 true).setIfInBounds i1 true) i2=true:=by kernel_rfl) (e2:(Region.ready md l.toArray ((L.setIfInBounds i0 true).setIfInBounds i1 true)).contains i2=true:=by kernel_rfl) (f2:Region.wanted o2 (yielded l.toArray ((a.put o0.dst v0).put o1.dst v1).tmps)=true:=by rfl) (g2:∀W,S W->(execOp ((a.put o0.dst v0).put o1.dst v1).eval o2).run P W= .ok (.value v2) W:=by intro W hW;(try dsimp only at hW);go_simp<;>with_reducible rfl)
    (b3:l[i3]? =some o3:=by rfl) (c3:Region.noSelect l.toArray=true:=by kernel_rfl) (d3:Region.free md l.toArray (((L.setIfInBounds i0 true).setIfInBounds i1 true).setIfInBounds i2 true) i3=true:=by kernel_rfl) (e3:(Region.ready md l.toArray (((L.setIfInBounds i0 true).setIfInBounds i1 true).setIfInBounds i2 true)).contains i3=true:=by kernel_rfl) (f3:Region.wanted o3 (yielded l.toArray (((a.put o0.dst v0).put o1.dst v1).put o2.dst v2).tmps)=true:=by rfl) (g3:∀W,S W->(execOp (((a.put o0.dst v0).put o1.dst v1).put o2.dst v2).eval o3).run P W= .ok (.value v3) W:=by intro W hW;(try dsimp only at hW);go_simp<;>with_reducible rfl)
    (hl:((((L.setIfInBounds i0 true).setIfInBounds i1 true).setIfInBounds i2 true).setIfInBounds i3 true)=L':=by(try simp only[List.setIfInBounds_toArray,List.set_cons_zero,List.set_cons_succ]);(try rfl)) (ha:((((a.put o0.dst v0).put o1.dst v1).put o2.dst v2).put o3.dst v3)=a':=by(try simp only[Act.put,List.setIfInBounds_toArray,List.set_cons_zero,List.set_cons_succ]);(try rfl)):
    wpAnyH P md l.toArray (NoPanic Q) S (fuel+1+1+1+1) L a w:=by
  subst hl ha;exact pF b0 c0 d0 e0 f0 g0 hS (pF b1 c1 d1 e1 f1 g1 hS (pF b2 c2 d2 e2 f2 g2 hS (pF b3 c3 d3 e3 f3 g3 hS (h))))
theorem R5{P:Program}{l:List Oper}{Q:Exit->Act->World->Prop}{md:Region.Mode}{S:World->Prop}{fuel:Nat}{L L':Array Bool}{a a':Act}{w:World}{o0 o1 o2 o3 o4:Oper}{v0 v1 v2 v3 v4:Value}(i0 i1 i2 i3 i4:Nat)(h:wpAnyH P md l.toArray (NoPanic Q) S fuel L' a' w)(hS:S w:=by assumption)
    (b0:l[i0]? =some o0:=by rfl) (c0:Region.noSelect l.toArray=true:=by kernel_rfl) (d0:Region.free md l.toArray L i0=true:=by kernel_rfl) (e0:(Region.ready md l.toArray L).contains i0=true:=by kernel_rfl) (f0:Region.wanted o0 (yielded l.toArray a.tmps)=true:=by rfl) (g0:∀W,S W->(execOp a.eval o0).run P W= .ok (.value v0) W:=by intro W hW;(try dsimp only at hW);go_simp<;>with_reducible rfl)
    (b1:l[i1]? =some o1:=by rfl) (c1:Region.noSelect l.toArray=true:=by kernel_rfl) (d1:Region.free md l.toArray (L.setIfInBounds i0 true) i1=true:=by kernel_rfl) (e1:(Region.ready md l.toArray (L.setIfInBounds i0 true)).contains i1=true:=by kernel_rfl) (f1:Region.wanted o1 (yielded l.toArray (a.put o0.dst v0).tmps)=true:=by rfl) (g1:∀W,S W->(execOp (a.put o0.dst v0).eval o1).run P W= .ok (.value v1) W:=by intro W hW;(try dsimp only at hW);go_simp<;>with_reducible rfl)
    (b2:l[i2]? =some o2:=by rfl) (c2:Region.noSelect l.toArray=true:=by kernel_rfl) (d2:Region.free md l.toArray ((L.setIfInBounds i0 true).setIfInBounds i1 true) i2=true:=by kernel_rfl) (e2:(Region.ready md l.toArray ((L.setIfInBounds i0 true).setIfInBounds i1 true)).contains i2=true:=by kernel_rfl) (f2:Region.wanted o2 (yielded l.toArray ((a.put o0.dst v0).put o1.dst v1).tmps)=true:=by rfl) (g2:∀W,S W->(execOp ((a.put o0.dst v0).put o1.dst v1).eval o2).run P W= .ok (.value v2) W:=by intro W hW;(try dsimp only at hW);go_simp<;>with_reducible rfl)
    (b3:l[i3]? =some o3:=by rfl) (c3:Region.noSelect l.toArray=true:=by kernel_rfl) (d3:Region.free md l.toArray (((L.setIfInBounds i0 true).setIfInBounds i1 true).setIfInBounds i2 true) i3=true:=by kernel_rfl) (e3:(Region.ready md l.toArray (((L.setIfInBounds i0 true).setIfInBounds i1 true).setIfInBounds i2 true)).contains i3=true:=by kernel_rfl) (f3:Region.wanted o3 (yielded l.toArray (((a.put o0.dst v0).put o1.dst v1).put o2.dst v2).tmps)=true:=by rfl) (g3:∀W,S W->(execOp (((a.put o0.dst v0).put o1.dst v1).put o2.dst v2).eval o3).run P W= .ok (.value v3) W:=by intro W hW;(try dsimp only at hW);go_simp<;>with_reducible rfl)
    (b4:l[i4]? =some o4:=by rfl) (c4:Region.noSelect l.toArray=true:=by kernel_rfl) (d4:Region.free md l.toArray ((((L.setIfInBounds i0 true).setIfInBounds i1 true).setIfInBounds i2 true).setIfInBounds i3 true) i4=true:=by kernel_rfl) (e4:(Region.ready md l.toArray ((((L.setIfInBounds i0 true).setIfInBounds i1 true).setIfInBounds i2 true).setIfInBounds i3 true)).contains i4=true:=by kernel_rfl) (f4:Region.wanted o4 (yielded l.toArray ((((a.put o0.dst v0).put o1.dst v1).put o2.dst v2).put o3.dst v3).tmps)=true:=by rfl) (g4:∀W,S W->(execOp ((((a.put o0.dst v0).put o1.dst v1).put o2.dst v2).put o3.dst v3).eval o4).run P W= .ok (.value v4) W:=by intro W hW;(try dsimp only at hW);go_simp<;>with_reducible rfl)
    (hl:(((((L.setIfInBounds i0 true).setIfInBounds i1 true).setIfInBounds i2 true).setIfInBounds i3 true).setIfInBounds i4 true)=L':=by(try simp only[List.setIfInBounds_toArray,List.set_cons_zero,List.set_cons_succ]);(try rfl)) (ha:(((((a.put o0.dst v0).put o1.dst v1).put o2.dst v2).put o3.dst v3).put o4.dst v4)=a':=by(try simp only[Act.put,List.setIfInBounds_toArray,List.set_cons_zero,List.set_cons_succ]);(try rfl)):
    wpAnyH P md l.toArray (NoPanic Q) S (fuel+1+1+1+1+1) L a w:=by
  subst hl ha;exact pF b0 c0 d0 e0 f0 g0 hS (pF b1 c1 d1 e1 f1 g1 hS (pF b2 c2 d2 e2 f2 g2 hS (pF b3 c3 d3 e3 f3 g3 hS (pF b4 c4 d4 e4 f4 g4 hS (h)))))
namespace Ch
theorem Aa:type_of%@Go.RowKit.Below.refl:=@Go.RowKit.Below.refl
theorem Ab:type_of%@Array.getElem?_eq_some_iff:=@Array.getElem?_eq_some_iff
theorem Ad:type_of%@_root_.Nat.zero_le:=@_root_.Nat.zero_le
theorem Ae:type_of%@Go.bodyPost_ret:=@Go.bodyPost_ret
theorem Af:type_of%@Option.some.injEq:=@Option.some.injEq
theorem Ag:type_of%@Go.heap_setCell_same:=@Go.heap_setCell_same
theorem Ah:type_of%@Go.Joins.block_setCell:=@Go.Joins.block_setCell
theorem Ai:type_of%@Go.cell_of_row:=@Go.cell_of_row
theorem Aj:type_of%@List.mem_append:=@List.mem_append
theorem Ak:type_of%@_root_.Nat.le_trans:=@_root_.Nat.le_trans
theorem Al:type_of%@_root_.Nat.zero_add:=@_root_.Nat.zero_add
theorem Am:type_of%@List.mem_cons:=@List.mem_cons
theorem An:type_of%@Go.frozen_of_row:=@Go.frozen_of_row
theorem Ao:type_of%@List.getElem?_eq_getElem:=@List.getElem?_eq_getElem
theorem Ap:type_of%@Go.Addr.mk.injEq:=@Go.Addr.mk.injEq
theorem Aq:type_of%@Go.World.cell?_setCell_other:=@Go.World.cell?_setCell_other
theorem Ar:type_of%@Go.heap_alloc_new:=@Go.heap_alloc_new
theorem As:type_of%@Go.results_cell_row:=@Go.results_cell_row
theorem At:type_of%@_root_.Nat.lt_of_lt_of_le:=@_root_.Nat.lt_of_lt_of_le
theorem Au:type_of%@Array.getElem?_setIfInBounds_ne:=@Array.getElem?_setIfInBounds_ne
theorem Av:type_of%@List.getElem?_append_left:=@List.getElem?_append_left
theorem Aw:type_of%@Go.World.ownsRow_nil:=@Go.World.ownsRow_nil
theorem Ax:type_of%@Go.Joins.unfrozen_of_block:=@Go.Joins.unfrozen_of_block
theorem Ay:type_of%@List.getElem?_append_right:=@List.getElem?_append_right
theorem Az:type_of%@List.all_eq_true:=@List.all_eq_true
theorem Ba:type_of%@List.mem_cons_of_mem:=@List.mem_cons_of_mem
theorem Bb:type_of%@List.take_of_length_le:=@List.take_of_length_le
theorem Bd:type_of%@Go.RowKit.ownsRow_setCell_below:=@Go.RowKit.ownsRow_setCell_below
theorem Be:type_of%@List.take_length:=@List.take_length
theorem Bg:type_of%@Go.Value.slice.injEq:=@Go.Value.slice.injEq
theorem Bh:type_of%@List.setIfInBounds_toArray:=@List.setIfInBounds_toArray
theorem Bi:type_of%@Go.AllReadyH.cons:=@Go.AllReadyH.cons
theorem Bj:type_of%@List.mem_cons_self:=@List.mem_cons_self
theorem Bk:type_of%@List.getElem?_eq_none:=@List.getElem?_eq_none
theorem Bl:type_of%@List.filter_append:=@List.filter_append
theorem Bp:type_of%@decide_eq_false_iff_not:=@decide_eq_false_iff_not
theorem Bq:type_of%@Bool.and_eq_true:=@Bool.and_eq_true
theorem Br:type_of%@Go.IntWalk.i64_in:=@Go.IntWalk.i64_in
theorem Bt:type_of%@List.getD_eq_getElem?_getD:=@List.getD_eq_getElem?_getD
theorem Bu:type_of%@Go.RowKit.Below.heap_setCell:=@Go.RowKit.Below.heap_setCell
theorem Bv:type_of%@List.length_append:=@List.length_append
theorem Bw:type_of%@List.append_assoc:=@List.append_assoc
theorem By:type_of%@List.mem_filter:=@List.mem_filter
theorem Bz:type_of%@Go.info_parts:=@Go.info_parts
theorem Ca:type_of%@Bool.and_eq_false_iff:=@Bool.and_eq_false_iff
theorem Cb:type_of%@List.drop_of_length_le:=@List.drop_of_length_le
theorem Cc:type_of%@List.flatMap_cons:=@List.flatMap_cons
theorem Cd:type_of%@_root_.Nat.lt_or_ge:=@_root_.Nat.lt_or_ge
theorem Ce:type_of%@List.getElem_mem:=@List.getElem_mem
theorem Cf:type_of%@List.mem_flatMap:=@List.mem_flatMap
theorem Cg:type_of%@List.mem_of_mem_take:=@List.mem_of_mem_take
theorem Ci:type_of%@List.take_append_drop:=@List.take_append_drop
theorem Cj:type_of%@Go.below_drewN:=@Go.below_drewN
theorem Ck:type_of%@List.drop_eq_getElem_cons:=@List.drop_eq_getElem_cons
theorem Cl:type_of%@List.pairwise_iff_getElem:=@List.pairwise_iff_getElem
theorem Cm:type_of%@trivial:=@trivial
theorem Cn:type_of%@and_true:=@and_true
theorem Co:type_of%@List.getElem_of_mem:=@List.getElem_of_mem
theorem Cp:type_of%@List.mem_singleton:=@List.mem_singleton
theorem Cq:type_of%@beq_eq_false_iff_ne:=@beq_eq_false_iff_ne
theorem Cr:type_of%@Go.World.ownsRow_lit:=@Go.World.ownsRow_lit
theorem Cs:type_of%@decide_eq_true_eq:=@decide_eq_true_eq
theorem Ct:type_of%@List.any_eq_true:=@List.any_eq_true
theorem Cu:type_of%@List.not_mem_nil:=@List.not_mem_nil
theorem Cw:type_of%@List.pairwise_cons:=@List.pairwise_cons
theorem Cx:type_of%@List.nodup_append:=@List.nodup_append
theorem Cy:type_of%@List.mem_iff_getElem:=@List.mem_iff_getElem
theorem Cz:type_of%@List.mem_of_mem_drop:=@List.mem_of_mem_drop
theorem Da:type_of%@Bool.false_ne_true:=@Bool.false_ne_true
theorem Db:type_of%@List.mem_map:=@List.mem_map
theorem Dc:type_of%@List.flatMap_append:=@List.flatMap_append
theorem Dd:type_of%@List.length_eq_zero_iff:=@List.length_eq_zero_iff
theorem De:type_of%@Go.RowKit.Below.alloc:=@Go.RowKit.Below.alloc
theorem Df:type_of%@List.getElem?_drop:=@List.getElem?_drop
theorem Dg:type_of%@List.mem_range:=@List.mem_range
theorem Dh:type_of%@List.filter_cons:=@List.filter_cons
theorem Di:type_of%@List.getElem?_eq_some_iff:=@List.getElem?_eq_some_iff
theorem Dj:type_of%@Go.RowKit.Below.setCell:=@Go.RowKit.Below.setCell
theorem Dk:type_of%@Go.AllReadyH.nil:=@Go.AllReadyH.nil
theorem Dl:type_of%@Array.getElem?_setIfInBounds_self_of_lt:=@Array.getElem?_setIfInBounds_self_of_lt
theorem Dm:type_of%@_root_.Nat.add_assoc:=@_root_.Nat.add_assoc
theorem Dn:type_of%@List.eq_nil_of_length_eq_zero:=@List.eq_nil_of_length_eq_zero
theorem Do:type_of%@Go.callsIn_wide:=@Go.callsIn_wide
theorem Dp:type_of%@List.map_append:=@List.map_append
theorem Dq:type_of%@Go.wpOp_step:=@Go.wpOp_step
theorem Dr:type_of%@Go.wpAnyH_ready:=@Go.wpAnyH_ready
theorem Dt:type_of%@List.length_filter_le:=@List.length_filter_le
theorem Du:type_of%@List.take_add_one:=@List.take_add_one
theorem Dv:type_of%@List.mem_of_getElem?:=@List.mem_of_getElem?
theorem Dw:type_of%@Go.RowKit.Below.drew:=@Go.RowKit.Below.drew
theorem Dx:type_of%@beq_iff_eq:=@beq_iff_eq
theorem Dy:type_of%@Bool.or_eq_true:=@Bool.or_eq_true
theorem Dz:type_of%@List.append_nil:=@List.append_nil
theorem Ea:type_of%@List.getElem?_set_ne:=@List.getElem?_set_ne
theorem Eb:type_of%@List.nodup_cons:=@List.nodup_cons
theorem Ec:type_of%@Bool.not_eq_true':=@Bool.not_eq_true'
theorem Ed:type_of%@List.any_eq_false:=@List.any_eq_false
theorem Ee:type_of%@Option.mem_toList:=@Option.mem_toList
theorem Ef:type_of%@List.map_cons:=@List.map_cons
theorem Eg:type_of%@List.contains_iff_mem:=@List.contains_iff_mem
theorem Eh:type_of%@or_false:=@or_false
theorem Ei:type_of%@_root_.Nat.eq_zero_or_pos:=@_root_.Nat.eq_zero_or_pos
theorem Ej:type_of%@List.length_drop:=@List.length_drop
theorem Ek:type_of%@Go.results_none:=@Go.results_none
theorem El:type_of%@Bool.not_false:=@Bool.not_false
theorem Em:type_of%@List.foldl_append:=@List.foldl_append
theorem En:type_of%@_root_.Nat.lt_trichotomy:=@_root_.Nat.lt_trichotomy
theorem Eo:type_of%@List.getElem?_take_of_lt:=@List.getElem?_take_of_lt
theorem Ep:type_of%@_root_.Nat.zero_mul:=@_root_.Nat.zero_mul
theorem Er:type_of%@Go.bodyPost_end:=@Go.bodyPost_end
theorem Es:type_of%@true_and:=@true_and
theorem Et:type_of%@Bool.true_and:=@Bool.true_and
theorem Eu:type_of%@Go.World.cell?_of_block:=@Go.World.cell?_of_block
theorem Ev:type_of%@Array.getElem?_eq_none:=@Array.getElem?_eq_none
theorem Ew:type_of%@Go.setRow_other:=@Go.setRow_other
theorem Ex:type_of%@Go.RowKit.Below.heap_alloc:=@Go.RowKit.Below.heap_alloc
theorem Ey:type_of%@List.length_take:=@List.length_take
theorem Ez:type_of%@List.getElem?_take:=@List.getElem?_take
theorem Fa:type_of%@decide_eq_true:=@decide_eq_true
theorem Fb:type_of%@_root_.Nat.mul_one:=@_root_.Nat.mul_one
theorem Fc:type_of%@Array.size_setIfInBounds:=@Array.size_setIfInBounds
theorem Fe:type_of%@Bool.eq_iff_iff:=@Bool.eq_iff_iff
theorem Fg:type_of%@List.range_succ:=@List.range_succ
theorem Fh:type_of%@List.filter_cons_of_neg:=@List.filter_cons_of_neg
theorem Fi:type_of%@Go.World.putObj_heap_other:=@Go.World.putObj_heap_other
theorem Fj:type_of%@List.filter_eq_nil_iff:=@List.filter_eq_nil_iff
theorem Fk:type_of%@List.getElem?_set_self:=@List.getElem?_set_self
theorem Fl:type_of%@if_true:=@if_true
theorem Fm:type_of%@Bool.not_true:=@Bool.not_true
theorem Fo:type_of%@Array.getElem?_eq_getElem:=@Array.getElem?_eq_getElem
theorem Fp:type_of%@List.mem_append_left:=@List.mem_append_left
theorem Fq:type_of%@List.pairwise_append:=@List.pairwise_append
theorem Fr:type_of%@Go.run_underlying:=@Go.run_underlying
theorem Fs:type_of%@_root_.Nat.lt_succ_self:=@_root_.Nat.lt_succ_self
theorem Ft:type_of%@_root_.Nat.not_lt_of_le:=@_root_.Nat.not_lt_of_le
theorem Fu:type_of%@Go.wpList_store_row:=@Go.wpList_store_row
theorem Fv:type_of%@Go.KeepsOthers.setCell:=@Go.KeepsOthers.setCell
theorem Fw:type_of%@_root_.Nat.lt_irrefl:=@_root_.Nat.lt_irrefl
theorem Fx:type_of%@Array.all_eq_true':=@Array.all_eq_true'
theorem Fy:type_of%@Int.emod_lt_of_pos:=@Int.emod_lt_of_pos
theorem Fz:type_of%@decide_eq_false:=@decide_eq_false
theorem Ga:type_of%@List.ext_getElem?:=@List.ext_getElem?
theorem Gb:type_of%@List.getElem?_set:=@List.getElem?_set
theorem Gc:type_of%@List.pairwise_map:=@List.pairwise_map
theorem Ge:type_of%@Bool.and_false:=@Bool.and_false
theorem Gf:type_of%@List.drop_zero:=@List.drop_zero
theorem Gg:type_of%@Bool.or_false:=@Bool.or_false
end Ch
namespace Ch
theorem z'{n:Nat}:n≤n:=Nat.le_refl n
theorem u'{B:Nat}{w:World}:Below B w w:=Below.refl B w
theorem q'{w:World}{o:Obj}:Below w.heap.size w (w.alloc o):=(Below.refl _ _).alloc (Nat.le_refl _) o
theorem f'(w:World)(o:Obj):Below w.heap.size w (w.alloc o):=(Below.refl _ _).alloc (Nat.le_refl _) o
end Ch
namespace Ch
theorem E'{P:Program}{f:FuncId}{s:Array Value}{w W:World}{V:Ending}{Q:Ending->World->Prop}(h:Calls P f s w fun e w'=>e=V/\w'=W)(k:Q V W):Calls P f s w Q:=h.mono (by rintro e w' ⟨rfl,rfl⟩;exact k)
theorem C'{w:World}{g j:Nat}{cs:Array Value}{t:TypeId}{f:Nat×Nat}(h:w.heap[g]? =some (.cells cs t f)):w.cell? ⟨g,j,none⟩=cs[j]? :=cell_of_row _ _ _ _ _ _ h
abbrev V'(a b:World):Prop:=Below a.heap.size a b
end Ch
end Go.Proofs.YtpbbokalojdooaaGreat
