import Derived.Test.YtpbbokalojdooaaGreatProg
import Derived.SizedLaws
import Derived.WalkKit
import Derived.WalkLawsBesides
import Derived.WalkSpells
import Derived.BigQuiet
import Derived.Deep.AppendLies
import Derived.Deep.QuietTactic
import Derived.Deep.RegionHeld3
import Derived.Deep.RegionWith
import Derived.Lib.SliceRun
import Derived.Deep.RegionLaw
import Derived.Laws.Externs
import Derived.Laws.IdiomCopy
import Derived.Laws.NewBlocks
import Derived.Lib.AppendZerosOnto
import Derived.Lib.Overlaps
import Derived.Maps.OwnOps
import Derived.Maps.OwnSet
import Derived.Deep.Cut
import Derived.Laws.BitsAllLaws
import Derived.Lib.AppendZeros
import Derived.Maps.AppendAt
import Derived.Deep.DeepCutAuto
import Derived.Deep.WholeRow
import Derived.Great.Walk
import Derived.Lib.SmallJoins
import Derived.ChangeKeysEq
import Derived.Laws.StructEq
import Derived.Laws.CopyOwn
import Derived.LoopIn
import Derived.LoopNIn
import Derived.OwnWalkIn
import Derived.RangeFuncBound
import Derived.RangeFuncCalls
import Derived.RangeFuncLeaves
import Derived.RangeFuncNested
import Derived.Shelf.Abstract
import Derived.TacticsInMore
import Derived.RangeFuncBox
import Derived.OrdersHeld
import Derived.Deep.RegionLawGrows
import Derived.Great.Frames
import Derived.Sort.OwnSorted
import Derived.Deep.LoopGhost
import Derived.Maps.RangeWalk
import Derived.Defers
import Derived.Recover
import Derived.Laws.Small
import Derived.Deep.CutBlock
import Derived.Laws.Tables
import Derived.Maps.OwnIn
import Derived.ChangeOld
import Derived.Deep.Fields
import Derived.OpenShut
import Derived.ProofKit
namespace Go.Proofs.YtpbbokalojdooaaGreat
open Go.RowKit
set_option linter.unusedSimpArgs false
set_option linter.unusedVariables false
set_option maxRecDepth 20000
set_option maxHeartbeats 8000000
namespace Ch
end Ch
theorem oI{P:Program}{l:List Oper}{Q:Exit->Act->World->Prop}{md:Region.Mode}{S:World->Prop}{i:Nat}{oi:Oper}{v:Value}{fuel:Nat}{listed:Array Bool}{a:Act}{w:World}(hi:l[i]? =some oi)
  (hs:Region.noSelect l.toArray=true) (hf:Region.free md l.toArray listed i=true) (hr:(Region.ready md l.toArray listed).contains i=true)
  (hw:Region.wanted oi (yielded l.toArray a.tmps)=true) (hy:∀W,S W->(execOp a.eval oi).run P W= .ok (.value v) W) (hS:S w)
  (h:wpAnyH P md l.toArray (NoPanic Q) S fuel (listed.setIfInBounds i true) (a.put oi.dst v) w):wpAnyH P md l.toArray (NoPanic Q) S (fuel+1) listed a w:=
 wpAnyH_take (by simpa using hi) hs hf hr (fun _ _ _ h=>h) (Or.inl ⟨hw,hy⟩) hS h
theorem hSkip{P:Program}{l:List Oper}{Q:Exit->Act->World->Prop}{md:Region.Mode}{S:World->Prop}{i:Nat}{oi:Oper}{fuel:Nat}{listed:Array Bool}{a:Act}{w:World}(hi:l[i]? =some oi)
  (hs:Region.noSelect l.toArray=true) (hf:Region.free md l.toArray listed i=true) (hr:(Region.ready md l.toArray listed).contains i=true)
  (hw:Region.wanted oi (yielded l.toArray a.tmps)=false) (hS:S w)
  (h:wpAnyH P md l.toArray (NoPanic Q) S fuel (listed.setIfInBounds i true) (a.put oi.dst undef) w):wpAnyH P md l.toArray (NoPanic Q) S (fuel+1) listed a w:=
 wpAnyH_take (by simpa using hi) hs hf hr (fun _ _ _ h=>h) (Or.inr ⟨hw,rfl⟩) hS h
theorem R8{P:Program}{l:List Oper}{Q:Exit->Act->World->Prop}{md:Region.Mode}{S:World->Prop}{oi:Oper}{v:Value}{fuel:Nat}{listed:Array Bool}{a:Act}{w:World}(i:Nat)(hS:S w:=by assumption)(hi:l[i]? =some oi:=by rfl)
  (hs:Region.noSelect l.toArray=true:=by kernel_rfl) (hf:Region.free md l.toArray listed i=true:=by kernel_rfl) (hr:(Region.ready md l.toArray listed).contains i=true:=by kernel_rfl)
  (hw:Region.wanted oi (yielded l.toArray a.tmps)=true:=by rfl) (hy:∀W,S W->(execOp a.eval oi).run P W= .ok (.value v) W:=by intro W hW;(try dsimp only at hW);go_simp<;>with_reducible rfl)
  (h:wpAnyH P md l.toArray (NoPanic Q) S fuel (listed.setIfInBounds i true) (a.put oi.dst v) w):wpAnyH P md l.toArray (NoPanic Q) S (fuel+1) listed a w:=
 oI hi hs hf hr hw hy hS h
theorem R9{P:Program}{l:List Oper}{Q:Exit->Act->World->Prop}{md:Region.Mode}{S:World->Prop}{oi:Oper}{fuel:Nat}{listed:Array Bool}{a:Act}{w:World}(i:Nat)(hS:S w:=by assumption)(hi:l[i]? =some oi:=by rfl)
  (hs:Region.noSelect l.toArray=true:=by kernel_rfl) (hf:Region.free md l.toArray listed i=true:=by kernel_rfl) (hr:(Region.ready md l.toArray listed).contains i=true:=by kernel_rfl)
  (hw:Region.wanted oi (yielded l.toArray a.tmps)=false:=by rfl)
  (h:wpAnyH P md l.toArray (NoPanic Q) S fuel (listed.setIfInBounds i true) (a.put oi.dst undef) w):wpAnyH P md l.toArray (NoPanic Q) S (fuel+1) listed a w:=
 wpAnyH_take (by simpa using hi) hs hf hr (fun _ _ _ h=>h) (Or.inr ⟨hw,rfl⟩) hS h
theorem R6{P:Program}{l:List Oper}{Q:Exit->Act->World->Prop}{md:Region.Mode}{S:World->Prop}{o:Oper}{fuel:Nat}{listed:Array Bool}{a:Act}{w:World}(i:Nat)
  (h:∀K':Act->World->Prop,Shut (∀a w,S w->(S w->wpAnyH P md l.toArray Q S fuel (listed.setIfInBounds i true) a w)->K' a w)->if Region.wanted o (yielded l.toArray a.tmps)=true then Oper.wp P o a w K' Q else K' (a.put o.dst undef) w)
  (ho:l[i]? =some o:=by rfl) (hr:Region.ready md l.toArray listed=[i]:=by kernel_rfl):wpAnyH P md l.toArray Q S (fuel+1) listed a w:=
 wpAnyH_ready hr (by simp) (AllReadyH.cons (by simpa using ho) h AllReadyH.nil)
theorem R7{P:Program}{l:List Oper}{Q:Exit->Act->World->Prop}{md:Region.Mode}{S:World->Prop}{fuel:Nat}{listed:Array Bool}{a:Act}{w:World}(h:Q .normal a w)(hr:Region.ready md l.toArray listed=[]:=by kernel_rfl):wpAnyH P md l.toArray (NoPanic Q) S fuel listed a w:=
 wpAnyH_done hr (NoPanic.normal h) _
theorem R0{P:Program}{ops:Array Oper}{Q:Exit->Act->World->Prop}{id:Nat}{a:Act}{w:World}(S:World->Prop)(hS:S w.drew)(h:S w.drew->wpAnyH P .any ops (NoPanic Q) S ops.size (Array.replicate ops.size false) a w.drew)(hm:P.follows .mixedOrders=true:=by kernel_rfl):(Code.region id ops true).wp P Q a w:=
 wp_region_noPanic (wp_region_held_drew (S:=S) hm hS h)
theorem J3{P:Program}{ops:Array Oper}{Q:Exit->Act->World->Prop}{md:Region.Mode}{S:World->Prop}{fuel:Nat}{L L':Array Bool}{a a':Act}{w:World}(h:wpAnyH P md ops Q S fuel L' a' w)
  (hl:L=L':=by(try simp only[List.setIfInBounds_toArray,List.set_cons_zero,List.set_cons_succ]);(try rfl)) (ha:a=a':=by(try simp only[Act.put,List.setIfInBounds_toArray,List.set_cons_zero,List.set_cons_succ]);(try rfl)):wpAnyH P md ops Q S fuel L a w:=by
 rw[hl,ha];exact h
theorem J1{P:Program}{l:List Oper}{Q:Exit->Act->World->Prop}{md:Region.Mode}{S:World->Prop}{o:Oper}{fuel:Nat}{listed:Array Bool}{a:Act}{w:World}(i:Nat)
  (h:∀K':Act->World->Prop,Shut (∀a w,S w->(S w->wpAnyH P md l.toArray Q S fuel (listed.setIfInBounds i true) a w)->K' a w)->if Region.wanted o (yielded l.toArray a.tmps)=true then Oper.wp P o a w K' Q else K' (a.put o.dst undef) w)
  (ho:l[i]? =some o:=by rfl) (hr:Region.ready md l.toArray listed=[i]:=by kernel_rfl):wpAnyH P md l.toArray Q S (fuel+1) listed a w:=
 wpAnyH_ready hr (by simp) (AllReadyH.cons (by simpa using ho) h AllReadyH.nil)
theorem J2{P:Program}{l:List Oper}{Q:Exit->Act->World->Prop}{md:Region.Mode}{S:World->Prop}{o o':Oper}{fuel:Nat}{listed:Array Bool}{a:Act}{w:World}(i j:Nat)
  (h:∀K':Act->World->Prop,Shut (∀a w,S w->(S w->wpAnyH P md l.toArray Q S fuel (listed.setIfInBounds i true) a w)->K' a w)->if Region.wanted o (yielded l.toArray a.tmps)=true then Oper.wp P o a w K' Q else K' (a.put o.dst undef) w)
  (h':∀K':Act->World->Prop,Shut (∀a w,S w->(S w->wpAnyH P md l.toArray Q S fuel (listed.setIfInBounds j true) a w)->K' a w)->if Region.wanted o' (yielded l.toArray a.tmps)=true then Oper.wp P o' a w K' Q else K' (a.put o'.dst undef) w)
  (ho:l[i]? =some o:=by rfl) (ho':l[j]? =some o':=by rfl) (hr:Region.ready md l.toArray listed=[i,j]:=by kernel_rfl):wpAnyH P md l.toArray Q S (fuel+1) listed a w:=
 wpAnyH_ready hr (by simp) (AllReadyH.cons (by simpa using ho) h (AllReadyH.cons (by simpa using ho') h' AllReadyH.nil))
theorem R1{P:Program}{l:List Oper}{Q:Exit->Act->World->Prop}{md:Region.Mode}{S:World->Prop}{fuel:Nat}{L L':Array Bool}{a a':Act}{w:World}{o0:Oper}{v0:Value}(i0:Nat)(h:wpAnyH P md l.toArray (NoPanic Q) S fuel L' a' w)(hS:S w:=by assumption)
    (b0:l[i0]? =some o0:=by rfl) (c0:Region.noSelect l.toArray=true:=by kernel_rfl) (d0:Region.free md l.toArray L i0=true:=by kernel_rfl) (e0:(Region.ready md l.toArray L).contains i0=true:=by kernel_rfl) (f0:Region.wanted o0 (yielded l.toArray a.tmps)=true:=by rfl) (g0:∀W,S W->(execOp a.eval o0).run P W= .ok (.value v0) W:=by intro W hW;(try dsimp only at hW);go_simp<;>with_reducible rfl)
    (hl:(L.setIfInBounds i0 true)=L':=by(try simp only[List.setIfInBounds_toArray,List.set_cons_zero,List.set_cons_succ]);(try rfl)) (ha:(a.put o0.dst v0)=a':=by(try simp only[Act.put,List.setIfInBounds_toArray,List.set_cons_zero,List.set_cons_succ]);(try rfl)):
    wpAnyH P md l.toArray (NoPanic Q) S (fuel+1) L a w:=by
  subst hl ha;exact oI b0 c0 d0 e0 f0 g0 hS (h)
theorem R2{P:Program}{l:List Oper}{Q:Exit->Act->World->Prop}{md:Region.Mode}{S:World->Prop}{fuel:Nat}{L L':Array Bool}{a a':Act}{w:World}{o0 o1:Oper}{v0 v1:Value}(i0 i1:Nat)(h:wpAnyH P md l.toArray (NoPanic Q) S fuel L' a' w)(hS:S w:=by assumption)
    (b0:l[i0]? =some o0:=by rfl) (c0:Region.noSelect l.toArray=true:=by kernel_rfl) (d0:Region.free md l.toArray L i0=true:=by kernel_rfl) (e0:(Region.ready md l.toArray L).contains i0=true:=by kernel_rfl) (f0:Region.wanted o0 (yielded l.toArray a.tmps)=true:=by rfl) (g0:∀W,S W->(execOp a.eval o0).run P W= .ok (.value v0) W:=by intro W hW;(try dsimp only at hW);go_simp<;>with_reducible rfl)
    (b1:l[i1]? =some o1:=by rfl) (c1:Region.noSelect l.toArray=true:=by kernel_rfl) (d1:Region.free md l.toArray (L.setIfInBounds i0 true) i1=true:=by kernel_rfl) (e1:(Region.ready md l.toArray (L.setIfInBounds i0 true)).contains i1=true:=by kernel_rfl) (f1:Region.wanted o1 (yielded l.toArray (a.put o0.dst v0).tmps)=true:=by rfl) (g1:∀W,S W->(execOp (a.put o0.dst v0).eval o1).run P W= .ok (.value v1) W:=by intro W hW;(try dsimp only at hW);go_simp<;>with_reducible rfl)
    (hl:((L.setIfInBounds i0 true).setIfInBounds i1 true)=L':=by(try simp only[List.setIfInBounds_toArray,List.set_cons_zero,List.set_cons_succ]);(try rfl)) (ha:((a.put o0.dst v0).put o1.dst v1)=a':=by(try simp only[Act.put,List.setIfInBounds_toArray,List.set_cons_zero,List.set_cons_succ]);(try rfl)):
    wpAnyH P md l.toArray (NoPanic Q) S (fuel+1+1) L a w:=by
  subst hl ha;exact oI b0 c0 d0 e0 f0 g0 hS (oI b1 c1 d1 e1 f1 g1 hS (h))
theorem R3{P:Program}{l:List Oper}{Q:Exit->Act->World->Prop}{md:Region.Mode}{S:World->Prop}{fuel:Nat}{L L':Array Bool}{a a':Act}{w:World}{o0 o1 o2:Oper}{v0 v1 v2:Value}(i0 i1 i2:Nat)(h:wpAnyH P md l.toArray (NoPanic Q) S fuel L' a' w)(hS:S w:=by assumption)
    (b0:l[i0]? =some o0:=by rfl) (c0:Region.noSelect l.toArray=true:=by kernel_rfl) (d0:Region.free md l.toArray L i0=true:=by kernel_rfl) (e0:(Region.ready md l.toArray L).contains i0=true:=by kernel_rfl) (f0:Region.wanted o0 (yielded l.toArray a.tmps)=true:=by rfl) (g0:∀W,S W->(execOp a.eval o0).run P W= .ok (.value v0) W:=by intro W hW;(try dsimp only at hW);go_simp<;>with_reducible rfl)
    (b1:l[i1]? =some o1:=by rfl) (c1:Region.noSelect l.toArray=true:=by kernel_rfl) (d1:Region.free md l.toArray (L.setIfInBounds i0 true) i1=true:=by kernel_rfl) (e1:(Region.ready md l.toArray (L.setIfInBounds i0 true)).contains i1=true:=by kernel_rfl) (f1:Region.wanted o1 (yielded l.toArray (a.put o0.dst v0).tmps)=true:=by rfl) (g1:∀W,S W->(execOp (a.put o0.dst v0).eval o1).run P W= .ok (.value v1) W:=by intro W hW;(try dsimp only at hW);go_simp<;>with_reducible rfl)
    (b2:l[i2]? =some o2:=by rfl) (c2:Region.noSelect l.toArray=true:=by kernel_rfl) (d2:Region.free md l.toArray ((L.setIfInBounds i0 true).setIfInBounds i1 true) i2=true:=by kernel_rfl) (e2:(Region.ready md l.toArray ((L.setIfInBounds i0 true).setIfInBounds i1 true)).contains i2=true:=by kernel_rfl) (f2:Region.wanted o2 (yielded l.toArray ((a.put o0.dst v0).put o1.dst v1).tmps)=true:=by rfl) (g2:∀W,S W->(execOp ((a.put o0.dst v0).put o1.dst v1).eval o2).run P W= .ok (.value v2) W:=by intro W hW;(try dsimp only at hW);go_simp<;>with_reducible rfl)
    (hl:(((L.setIfInBounds i0 true).setIfInBounds i1 true).setIfInBounds i2 true)=L':=by(try simp only[List.setIfInBounds_toArray,List.set_cons_zero,List.set_cons_succ]);(try rfl)) (ha:(((a.put o0.dst v0).put o1.dst v1).put o2.dst v2)=a':=by(try simp only[Act.put,List.setIfInBounds_toArray,List.set_cons_zero,List.set_cons_succ]);(try rfl)):
    wpAnyH P md l.toArray (NoPanic Q) S (fuel+1+1+1) L a w:=by
  subst hl ha;exact oI b0 c0 d0 e0 f0 g0 hS (oI b1 c1 d1 e1 f1 g1 hS (oI b2 c2 d2 e2 f2 g2 hS (h)))
theorem R4{P:Program}{l:List Oper}{Q:Exit->Act->World->Prop}{md:Region.Mode}{S:World->Prop}{fuel:Nat}{L L':Array Bool}{a a':Act}{w:World}{o0 o1 o2 o3:Oper}{v0 v1 v2 v3:Value}(i0 i1 i2 i3:Nat)(h:wpAnyH P md l.toArray (NoPanic Q) S fuel L' a' w)(hS:S w:=by assumption)
    (b0:l[i0]? =some o0:=by rfl) (c0:Region.noSelect l.toArray=true:=by kernel_rfl) (d0:Region.free md l.toArray L i0=true:=by kernel_rfl) (e0:(Region.ready md l.toArray L).contains i0=true:=by kernel_rfl) (f0:Region.wanted o0 (yielded l.toArray a.tmps)=true:=by rfl) (g0:∀W,S W->(execOp a.eval o0).run P W= .ok (.value v0) W:=by intro W hW;(try dsimp only at hW);go_simp<;>with_reducible rfl)
    (b1:l[i1]? =some o1:=by rfl) (c1:Region.noSelect l.toArray=true:=by kernel_rfl) (d1:Region.free md l.toArray (L.setIfInBounds i0 true) i1=true:=by kernel_rfl) (e1:(Region.ready md l.toArray (L.setIfInBounds i0 true)).contains i1=true:=by kernel_rfl) (f1:Region.wanted o1 (yielded l.toArray (a.put o0.dst v0).tmps)=true:=by rfl) (g1:∀W,S W->(execOp (a.put o0.dst v0).eval o1).run P W= .ok (.value v1) W:=by intro W hW;(try dsimp only at hW);go_simp<;>with_reducible rfl)
    (b2:l[i2]? =some o2:=by rfl) (c2:Region.noSelect l.toArray=true:=by kernel_rfl) (d2:Region.free md l.toArray ((L.setIfInBounds i0 true).setIfInBounds i1 true) i2=true:=by kernel_rfl) (e2:(Region.ready md l.toArray ((L.setIfInBounds i0 true).setIfInBounds i1 true)).contains i2=true:=by kernel_rfl) (f2:Region.wanted o2 (yielded l.toArray ((a.put o0.dst v0).put o1.dst v1).tmps)=true:=by rfl) (g2:∀W,S W->(execOp ((a.put o0.dst v0).put o1.dst v1).eval o2).run P W= .ok (.value v2) W:=by intro W hW;(try dsimp only at hW);go_simp<;>with_reducible rfl)
    (b3:l[i3]? =some o3:=by rfl) (c3:Region.noSelect l.toArray=true:=by kernel_rfl) (d3:Region.free md l.toArray (((L.setIfInBounds i0 true).setIfInBounds i1 true).setIfInBounds i2 true) i3=true:=by kernel_rfl) (e3:(Region.ready md l.toArray (((L.setIfInBounds i0 true).setIfInBounds i1 true).setIfInBounds i2 true)).contains i3=true:=by kernel_rfl) (f3:Region.wanted o3 (yielded l.toArray (((a.put o0.dst v0).put o1.dst v1).put o2.dst v2).tmps)=true:=by rfl) (g3:∀W,S W->(execOp (((a.put o0.dst v0).put o1.dst v1).put o2.dst v2).eval o3).run P W= .ok (.value v3) W:=by intro W hW;(try dsimp only at hW);go_simp<;>with_reducible rfl)
    (hl:((((L.setIfInBounds i0 true).setIfInBounds i1 true).setIfInBounds i2 true).setIfInBounds i3 true)=L':=by(try simp only[List.setIfInBounds_toArray,List.set_cons_zero,List.set_cons_succ]);(try rfl)) (ha:((((a.put o0.dst v0).put o1.dst v1).put o2.dst v2).put o3.dst v3)=a':=by(try simp only[Act.put,List.setIfInBounds_toArray,List.set_cons_zero,List.set_cons_succ]);(try rfl)):
    wpAnyH P md l.toArray (NoPanic Q) S (fuel+1+1+1+1) L a w:=by
  subst hl ha;exact oI b0 c0 d0 e0 f0 g0 hS (oI b1 c1 d1 e1 f1 g1 hS (oI b2 c2 d2 e2 f2 g2 hS (oI b3 c3 d3 e3 f3 g3 hS (h))))
theorem R5{P:Program}{l:List Oper}{Q:Exit->Act->World->Prop}{md:Region.Mode}{S:World->Prop}{fuel:Nat}{L L':Array Bool}{a a':Act}{w:World}{o0 o1 o2 o3 o4:Oper}{v0 v1 v2 v3 v4:Value}(i0 i1 i2 i3 i4:Nat)(h:wpAnyH P md l.toArray (NoPanic Q) S fuel L' a' w)(hS:S w:=by assumption)
    (b0:l[i0]? =some o0:=by rfl) (c0:Region.noSelect l.toArray=true:=by kernel_rfl) (d0:Region.free md l.toArray L i0=true:=by kernel_rfl) (e0:(Region.ready md l.toArray L).contains i0=true:=by kernel_rfl) (f0:Region.wanted o0 (yielded l.toArray a.tmps)=true:=by rfl) (g0:∀W,S W->(execOp a.eval o0).run P W= .ok (.value v0) W:=by intro W hW;(try dsimp only at hW);go_simp<;>with_reducible rfl)
    (b1:l[i1]? =some o1:=by rfl) (c1:Region.noSelect l.toArray=true:=by kernel_rfl) (d1:Region.free md l.toArray (L.setIfInBounds i0 true) i1=true:=by kernel_rfl) (e1:(Region.ready md l.toArray (L.setIfInBounds i0 true)).contains i1=true:=by kernel_rfl) (f1:Region.wanted o1 (yielded l.toArray (a.put o0.dst v0).tmps)=true:=by rfl) (g1:∀W,S W->(execOp (a.put o0.dst v0).eval o1).run P W= .ok (.value v1) W:=by intro W hW;(try dsimp only at hW);go_simp<;>with_reducible rfl)
    (b2:l[i2]? =some o2:=by rfl) (c2:Region.noSelect l.toArray=true:=by kernel_rfl) (d2:Region.free md l.toArray ((L.setIfInBounds i0 true).setIfInBounds i1 true) i2=true:=by kernel_rfl) (e2:(Region.ready md l.toArray ((L.setIfInBounds i0 true).setIfInBounds i1 true)).contains i2=true:=by kernel_rfl) (f2:Region.wanted o2 (yielded l.toArray ((a.put o0.dst v0).put o1.dst v1).tmps)=true:=by rfl) (g2:∀W,S W->(execOp ((a.put o0.dst v0).put o1.dst v1).eval o2).run P W= .ok (.value v2) W:=by intro W hW;(try dsimp only at hW);go_simp<;>with_reducible rfl)
    (b3:l[i3]? =some o3:=by rfl) (c3:Region.noSelect l.toArray=true:=by kernel_rfl) (d3:Region.free md l.toArray (((L.setIfInBounds i0 true).setIfInBounds i1 true).setIfInBounds i2 true) i3=true:=by kernel_rfl) (e3:(Region.ready md l.toArray (((L.setIfInBounds i0 true).setIfInBounds i1 true).setIfInBounds i2 true)).contains i3=true:=by kernel_rfl) (f3:Region.wanted o3 (yielded l.toArray (((a.put o0.dst v0).put o1.dst v1).put o2.dst v2).tmps)=true:=by rfl) (g3:∀W,S W->(execOp (((a.put o0.dst v0).put o1.dst v1).put o2.dst v2).eval o3).run P W= .ok (.value v3) W:=by intro W hW;(try dsimp only at hW);go_simp<;>with_reducible rfl)
    (b4:l[i4]? =some o4:=by rfl) (c4:Region.noSelect l.toArray=true:=by kernel_rfl) (d4:Region.free md l.toArray ((((L.setIfInBounds i0 true).setIfInBounds i1 true).setIfInBounds i2 true).setIfInBounds i3 true) i4=true:=by kernel_rfl) (e4:(Region.ready md l.toArray ((((L.setIfInBounds i0 true).setIfInBounds i1 true).setIfInBounds i2 true).setIfInBounds i3 true)).contains i4=true:=by kernel_rfl) (f4:Region.wanted o4 (yielded l.toArray ((((a.put o0.dst v0).put o1.dst v1).put o2.dst v2).put o3.dst v3).tmps)=true:=by rfl) (g4:∀W,S W->(execOp ((((a.put o0.dst v0).put o1.dst v1).put o2.dst v2).put o3.dst v3).eval o4).run P W= .ok (.value v4) W:=by intro W hW;(try dsimp only at hW);go_simp<;>with_reducible rfl)
    (hl:(((((L.setIfInBounds i0 true).setIfInBounds i1 true).setIfInBounds i2 true).setIfInBounds i3 true).setIfInBounds i4 true)=L':=by(try simp only[List.setIfInBounds_toArray,List.set_cons_zero,List.set_cons_succ]);(try rfl)) (ha:(((((a.put o0.dst v0).put o1.dst v1).put o2.dst v2).put o3.dst v3).put o4.dst v4)=a':=by(try simp only[Act.put,List.setIfInBounds_toArray,List.set_cons_zero,List.set_cons_succ]);(try rfl)):
    wpAnyH P md l.toArray (NoPanic Q) S (fuel+1+1+1+1+1) L a w:=by
  subst hl ha;exact oI b0 c0 d0 e0 f0 g0 hS (oI b1 c1 d1 e1 f1 g1 hS (oI b2 c2 d2 e2 f2 g2 hS (oI b3 c3 d3 e3 f3 g3 hS (oI b4 c4 d4 e4 f4 g4 hS (h)))))
namespace Ch
theorem z'{n:Nat}:n≤n:=Nat.le_refl n
theorem u'{B:Nat}{w:World}:Below B w w:=Below.refl B w
theorem q'{w:World}{o:Obj}:Below w.heap.size w (w.alloc o):=(Below.refl _ _).alloc (Nat.le_refl _) o
theorem f'(w:World)(o:Obj):Below w.heap.size w (w.alloc o):=(Below.refl _ _).alloc (Nat.le_refl _) o
end Ch
end Go.Proofs.YtpbbokalojdooaaGreat
