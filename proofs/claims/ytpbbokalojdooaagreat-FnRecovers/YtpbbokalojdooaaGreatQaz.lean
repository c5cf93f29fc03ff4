import Derived.Test.YtpbbokalojdooaaGreatQay
namespace Go.Proofs.YtpbbokalojdooaaGreat
open Go.RowKit Ch Go.Proofs.Tryz
set_option linter.unusedSimpArgs false
set_option linter.unusedVariables false
set_option maxRecDepth 20000
set_option maxHeartbeats 8000000
open Value renaming int->I,slice->Z,bool->X,agg->U
open IntKind renaming i64->J
open Option renaming none->O,some->Y
open Obj renaming cells->M
open Ending renaming returned->R'
open Bool renaming true->A',false->F'
variable {xs:List Value} {k m:Nat} {a:Option Addr} {w:World}
theorem cO6(b off n cap:Nat)(zs:List Int)(w:World)(h:CellsAt w (Y ⟨b,off,O⟩) n (bts zs))(hb:IsB zs)(hn:n<=1048576)(_hcap:n<=cap)(h5:5<=n)(h11:n<11)(hset:eU (zs.getD 0 0)=A'):
  Calls prog 72 #[Z (Y ⟨b,off,O⟩) n cap] w fun e w'=>e=R' (.tuple #[recV (cS zs).1,I J (cS zs).2])/\Below w.heap.size w w':=by
 have HL:=h.len;have h5':¬(n:Int)<5:=by omega
 have i0:(0:Int)<(n:Int):=by omega
 have i0n:0<n:=by omega
 obtain⟨b',off',hbo,hc0⟩:=h.at (show 0<n by omega);simp only[Option.some.injEq,Addr.mk.injEq,and_true]at hbo;obtain⟨rfl,rfl⟩:=hbo;rw[Nat.add_zero]at hc0;obtain⟨p0,q0⟩:=hb 0;obtain⟨p1,q1⟩:=hb 1;obtain⟨p2,q2⟩:=hb 2;have tk1:=fun(W:World) (hW:Below (w.heap.size+1) (w.alloc (M #[I J 0,I J 0,I J 0,X F',I J 0,X F',I J 0] 79)) W)=>vL (Y ⟨b,off,O⟩) n cap 1 zs W (h.below (cD hW)) hb (by omega) (by omega);simp only[Nat.reduceAdd,Int.reduceNeg,Int.cast_ofNat_Int]at tk1;have HV:Hid (cS zs=(Rec.zero,0)):=fO (fun hh=>by
  have e1:=hh.2.length_le;have e2:=Rec.bytes_len (Ch.unp zs);have e3:(Ch.unp zs).len=11:=by unfold Ch.unp;rw[if_pos hset];simp only[Rec.len];rw[if_pos hset]
  have e4:=HL.out;omega)
 have i11:(n:Int)<11:=by omega
 generalize zs.getD 0 0=d0 at*;generalize zs.getD 1 0=d1 at*;generalize zs.getD 2 0=d2 at*;have hw0:IntKind.i64.wrap d0=d0:=IntWalk.i64_in d0 ⟨by omega,by omega⟩;go_enter func72,ntmps72
 go_upto_region 3 with fail
 go_cut [4] (fun s wx=>s= .pointer (Y ⟨w.heap.size+1,0,O⟩)/\wx.heap[w.heap.size+1]? =Y (M #[I J d0,I J (d1*256+d2),I J 0,X F',I J 0,X F',I J 0] 79 (0,0))/\Below (w.heap.size+1) (w.alloc (M #[I J 0,I J 0,I J 0,X F',I J 0,X F',I J 0] 79)) wx/\wx.heap.size=w.heap.size+2)
 case first=>
  have HS:Hid (∀W',Below (w.heap.size+1) (w.alloc (M #[I J 0,I J 0,I J 0,X F',I J 0,X F',I J 0] 79)) W'->W'.cell? ⟨b,off,O⟩=Y (I .u8 d0)/\Below (w.heap.size+1) (w.alloc (M #[I J 0,I J 0,I J 0,X F',I J 0,X F',I J 0] 79)) W'):=fun W' hb=>⟨(aC (cD hb) hc0),hb⟩
  refine R0 (fun W'=>W'.cell? ⟨b,off,O⟩=Y (I .u8 d0)/\Below (w.heap.size+1) (w.alloc (M #[I J 0,I J 0,I J 0,X F',I J 0,X F',I J 0] 79)) W') (HS.out _ u'.drew) (fun hH=>?_);refine R5 0 1 2 3 4 ?_;refine wpAnyH_ready (rs:=[5,7]) (by kernel_rfl) (by simp) ?_;refine AllReadyH.cons rfl (fun K hK=>?_) (AllReadyH.cons rfl (fun K hK=>?_) AllReadyH.nil);focus
   go_simp;refine(tk1 _ hH.2).mono ?_;rintro e w1⟨rfl,hh1,bq⟩;have bq:=hH.2.trans (bq.mono (by simp));go_wp2_with fail
   refine hK.out _ _ ?_ (fun hH=>?_)
   .exact HS.out _ bq
   clear hK K;refine R1 6 ?_;refine R6 7 (fun K hK=>?_);go_simp;refine hK.out _ _ ?_ (fun hH=>?_)
   .exact HS.out _ (hH.2.alloc (by first|(simp;done)|(have:=hH.2.size;simp at this;omega)) _)
   clear hK K;have zq:=bq.size;simp at zq;have hsq:w1.heap.size=w.heap.size+1:=by rw[hh1];simp
   refine R6 8 (fun K hK=>?_);go_simp;refine hK.out _ _ ?_ (fun hH=>?_)
   .exact HS.out _ (bq.alloc zq _)
   clear hK K;refine R7 ?_;go_wp2_with fail
   go_meet;exact⟨rfl,aO hsq.symm,bq.alloc zq _,by simp[hsq]⟩
  rotate_left;focus
   go_simp;refine hK.out _ _ ?_ (fun hH=>?_)
   .exact HS.out _ (hH.2.alloc (by first|(simp;done)|(have:=hH.2.size;simp at this;omega)) _)
   clear hK K;refine R6 5 (fun K hK=>?_);go_simp;refine(tk1 _ hH.2).mono ?_;rintro e w1⟨rfl,hh1,bq⟩;have bq:=hH.2.trans (bq.mono (by simp));go_wp2_with fail
   refine hK.out _ _ ?_ (fun hH=>?_)
   .exact HS.out _ bq
   clear hK K;refine R1 6 ?_;have hR:w1.heap[w.heap.size+1]? =Y (M #[I J 0,I J 0,I J 0,X F',I J 0,X F',I J 0] 79 (0,0)):=by rw[hh1];exact aO (by simp)
   have hsq:w1.heap.size=w.heap.size+2:=by rw[hh1];simp
   obtain⟨x0,x1,x2,x3,x4,x5,x6⟩:=aB0 hR;obtain⟨f0,f1,f2,f3,f4,f5,f6⟩:=bJ5 hR;refine R6 8 (fun K hK=>?_);go_simp;refine hK.out _ _ ?_ (fun hH=>?_)
   .exact HS.out _ (nH bq (by omega) _ _ _ _ _ _ _)
   clear hK K;clear x0 x1 x2 x3 x4 x5 x6 f0 f1 f2 f3 f4 f5 f6;refine R7 ?_;go_wp2_with fail
   go_meet;exact⟨rfl,aO6 hR _ _ _ _ _ _ _,nH bq (by omega) _ _ _ _ _ _ _,by simp[hsq]⟩
  rotate_left
 case rest=>
 obtain⟨rfl,hR,hB,hsz⟩:=hcut;clear tk1 hc0;obtain⟨x0,x1,x2,x3,x4,x5,x6⟩:=aB0 hR;have bF':Below (w.alloc (M #[I J 0,I J 0,I J 0,X F',I J 0,X F',I J 0] 79)).heap.size (w.alloc (M #[I J 0,I J 0,I J 0,X F',I J 0,X F',I J 0] 79)) wc:=by simpa using hB
 obtain⟨y0,y1,y2,y3,y4,y5,y6⟩:=aQ2 bF';have g0:=hB.frozen (p:=⟨w.heap.size,0,O⟩) (by simp);have g1:=hB.frozen (p:=⟨w.heap.size,1,O⟩) (by simp);have g2:=hB.frozen (p:=⟨w.heap.size,2,O⟩) (by simp);have g3:=hB.frozen (p:=⟨w.heap.size,3,O⟩) (by simp);have g4:=hB.frozen (p:=⟨w.heap.size,4,O⟩) (by simp);have g5:=hB.frozen (p:=⟨w.heap.size,5,O⟩) (by simp);have g6:=hB.frozen (p:=⟨w.heap.size,6,O⟩) (by simp);simp[go_sem]at g0 g1 g2 g3 g4 g5 g6;have bE:=cD hB;have zE:=aD y0;clear hB bF' hR;go_wp2_with(go_at_call 112;refine(lM _ _).mono ?_;rintro e w1⟨rfl,hw1⟩;subst w1)
 rw[HV.out];refine bodyPost_ret (v:=.tuple #[U #[I J 0,I J 0,I J 0,X F',I J 0,X F',I J 0],I J 0]) (by simp[results,Tryz.results72,go_sem,zE,y0,y1,y2,y3,y4,y5,y6]) rfl ⟨rfl,?_⟩;repeat(first|with_reducible exact bE|with_reducible refine Below.drew ?_|with_reducible refine Below.alloc ?_ (by first|omega|(simp;done)|(simp;omega)) _|with_reducible refine Below.setCell ?_ (by simp) _)
theorem bY7(b off n cap:Nat)(zs:List Int)(w:World)(h:CellsAt w (Y ⟨b,off,O⟩) n (bts zs))(hb:IsB zs)(hn:n<=1048576)(hcap:n<=cap)(h11:11<=n)(hset:eU (zs.getD 0 0)=A'):
  Calls prog 72 #[Z (Y ⟨b,off,O⟩) n cap] w fun e w'=>e=R' (.tuple #[recV (cS zs).1,I J (cS zs).2])/\Below w.heap.size w w':=by
 have HL:=h.len;have h5':¬(n:Int)<5:=by omega
 have i0:(0:Int)<(n:Int):=by omega
 have i0n:0<n:=by omega
 obtain⟨b',off',hbo,hc0⟩:=h.at (show 0<n by omega);simp only[Option.some.injEq,Addr.mk.injEq,and_true]at hbo;obtain⟨rfl,rfl⟩:=hbo;rw[Nat.add_zero]at hc0;obtain⟨p0,q0⟩:=hb 0;obtain⟨p1,q1⟩:=hb 1;obtain⟨p2,q2⟩:=hb 2;obtain⟨p3,q3⟩:=hb 3;obtain⟨p4,q4⟩:=hb 4;obtain⟨p5,q5⟩:=hb 5;obtain⟨p6,q6⟩:=hb 6;obtain⟨p7,q7⟩:=hb 7;obtain⟨p8,q8⟩:=hb 8;have tk1:=fun(W:World) (hW:Below (w.heap.size+1) (w.alloc (M #[I J 0,I J 0,I J 0,X F',I J 0,X F',I J 0] 79)) W)=>vL (Y ⟨b,off,O⟩) n cap 1 zs W (h.below (cD hW)) hb (by omega) (by omega);simp only[Nat.reduceAdd,Int.reduceNeg,Int.cast_ofNat_Int]at tk1;have tk5:=fun(W:World) (hW:Below (w.heap.size+1) (w.alloc (M #[I J 0,I J 0,I J 0,X F',I J 0,X F',I J 0] 79)) W)=>vL (Y ⟨b,off,O⟩) n cap 5 zs W (h.below (cD hW)) hb (by omega) (by omega);simp only[Nat.reduceAdd,Int.reduceNeg,Int.cast_ofNat_Int]at tk5;have tk7:=fun(W:World) (hW:Below (w.heap.size+1) (w.alloc (M #[I J 0,I J 0,I J 0,X F',I J 0,X F',I J 0] 79)) W)=>vL (Y ⟨b,off,O⟩) n cap 7 zs W (h.below (cD hW)) hb (by omega) (by omega);simp only[Nat.reduceAdd,Int.reduceNeg,Int.cast_ofNat_Int]at tk7;have hc3:Hid (∀W,Below (w.heap.size+1) (w.alloc (M #[I J 0,I J 0,I J 0,X F',I J 0,X F',I J 0] 79)) W->W.cell? ⟨b,off+3,O⟩=Y (I .u8 (zs.getD 3 0))):=by intro W hW;obtain⟨b',off',hbo,hc⟩:=h.at (show 3<n by omega);simp only[Option.some.injEq,Addr.mk.injEq,and_true]at hbo;obtain⟨rfl,rfl⟩:=hbo;exact aC (cD hW) hc
 have hc4:Hid (∀W,Below (w.heap.size+1) (w.alloc (M #[I J 0,I J 0,I J 0,X F',I J 0,X F',I J 0] 79)) W->W.cell? ⟨b,off+4,O⟩=Y (I .u8 (zs.getD 4 0))):=by intro W hW;obtain⟨b',off',hbo,hc⟩:=h.at (show 4<n by omega);simp only[Option.some.injEq,Addr.mk.injEq,and_true]at hbo;obtain⟨rfl,rfl⟩:=hbo;exact aC (cD hW) hc
 have HU:Hid (Ch.unp zs=⟨zs.getD 0 0,zs.getD 1 0*256+zs.getD 2 0,zs.getD 3 0,zs.getD 4 0%2==1,zs.getD 5 0*256+zs.getD 6 0,zs.getD 4 0 / 2%2==1,zs.getD 7 0*256+zs.getD 8 0⟩):=by show _=_;unfold Ch.unp;rw[hset];rfl
 generalize zs.getD 0 0=d0 at*;generalize zs.getD 1 0=d1 at*;generalize zs.getD 2 0=d2 at*;generalize zs.getD 3 0=d3 at*;generalize zs.getD 4 0=d4 at*;generalize zs.getD 5 0=d5 at*;generalize zs.getD 6 0=d6 at*;generalize zs.getD 7 0=d7 at*;generalize zs.getD 8 0=d8 at*;have hw0:IntKind.i64.wrap d0=d0:=IntWalk.i64_in d0 ⟨by omega,by omega⟩;have hw3:IntKind.i64.wrap d3=d3:=IntWalk.i64_in d3 ⟨by omega,by omega⟩;have i11:¬(n:Int)<11:=by omega
 have i3:(3:Int)<(n:Int):=by omega
 have i4:(4:Int)<(n:Int):=by omega
 have i3n:3<n:=by omega
 have i4n:4<n:=by omega
 go_enter func72,ntmps72
 go_upto_region 3 with fail
 go_cut [4] (fun s wx=>s= .pointer (Y ⟨w.heap.size+1,0,O⟩)/\wx.heap[w.heap.size+1]? =Y (M #[I J d0,I J (d1*256+d2),I J 0,X F',I J 0,X F',I J 0] 79 (0,0))/\Below (w.heap.size+1) (w.alloc (M #[I J 0,I J 0,I J 0,X F',I J 0,X F',I J 0] 79)) wx/\wx.heap.size=w.heap.size+2)
 case first=>
  have HS:Hid (∀W',Below (w.heap.size+1) (w.alloc (M #[I J 0,I J 0,I J 0,X F',I J 0,X F',I J 0] 79)) W'->W'.cell? ⟨b,off,O⟩=Y (I .u8 d0)/\Below (w.heap.size+1) (w.alloc (M #[I J 0,I J 0,I J 0,X F',I J 0,X F',I J 0] 79)) W'):=fun W' hb=>⟨(aC (cD hb) hc0),hb⟩
  refine R0 (fun W'=>W'.cell? ⟨b,off,O⟩=Y (I .u8 d0)/\Below (w.heap.size+1) (w.alloc (M #[I J 0,I J 0,I J 0,X F',I J 0,X F',I J 0] 79)) W') (HS.out _ u'.drew) (fun hH=>?_);refine R5 0 1 2 3 4 ?_;refine wpAnyH_ready (rs:=[5,7]) (by kernel_rfl) (by simp) ?_;refine AllReadyH.cons rfl (fun K hK=>?_) (AllReadyH.cons rfl (fun K hK=>?_) AllReadyH.nil);focus
   go_simp;refine(tk1 _ hH.2).mono ?_;rintro e w1⟨rfl,hh1,bq⟩;have bq:=hH.2.trans (bq.mono (by simp));go_wp2_with fail
   refine hK.out _ _ ?_ (fun hH=>?_)
   .exact HS.out _ bq
   clear hK K;refine R1 6 ?_;refine R6 7 (fun K hK=>?_);go_simp;refine hK.out _ _ ?_ (fun hH=>?_)
   .exact HS.out _ (hH.2.alloc (by first|(simp;done)|(have:=hH.2.size;simp at this;omega)) _)
   clear hK K;have zq:=bq.size;simp at zq;have hsq:w1.heap.size=w.heap.size+1:=by rw[hh1];simp
   refine R6 8 (fun K hK=>?_);go_simp;refine hK.out _ _ ?_ (fun hH=>?_)
   .exact HS.out _ (bq.alloc zq _)
   clear hK K;refine R7 ?_;go_wp2_with fail
   go_meet;exact⟨rfl,aO hsq.symm,bq.alloc zq _,by simp[hsq]⟩
  rotate_left;focus
   go_simp;refine hK.out _ _ ?_ (fun hH=>?_)
   .exact HS.out _ (hH.2.alloc (by first|(simp;done)|(have:=hH.2.size;simp at this;omega)) _)
   clear hK K;refine R6 5 (fun K hK=>?_);go_simp;refine(tk1 _ hH.2).mono ?_;rintro e w1⟨rfl,hh1,bq⟩;have bq:=hH.2.trans (bq.mono (by simp));go_wp2_with fail
   refine hK.out _ _ ?_ (fun hH=>?_)
   .exact HS.out _ bq
   clear hK K;refine R1 6 ?_;have hR:w1.heap[w.heap.size+1]? =Y (M #[I J 0,I J 0,I J 0,X F',I J 0,X F',I J 0] 79 (0,0)):=by rw[hh1];exact aO (by simp)
   have hsq:w1.heap.size=w.heap.size+2:=by rw[hh1];simp
   obtain⟨x0,x1,x2,x3,x4,x5,x6⟩:=aB0 hR;obtain⟨f0,f1,f2,f3,f4,f5,f6⟩:=bJ5 hR;refine R6 8 (fun K hK=>?_);go_simp;refine hK.out _ _ ?_ (fun hH=>?_)
   .exact HS.out _ (nH bq (by omega) _ _ _ _ _ _ _)
   clear hK K;clear x0 x1 x2 x3 x4 x5 x6 f0 f1 f2 f3 f4 f5 f6;refine R7 ?_;go_wp2_with fail
   go_meet;exact⟨rfl,aO6 hR _ _ _ _ _ _ _,nH bq (by omega) _ _ _ _ _ _ _,by simp[hsq]⟩
  rotate_left
 case rest=>
 obtain⟨rfl,hR,hB,hsz⟩:=hcut;have x0:=(aB0 hR).1;go_upto_region 9 with(go_at_call 112;refine(lM _ _).mono ?_;rintro e w1⟨rfl,hw1⟩;subst w1)
 go_cut [] (fun wx=>wx.heap[w.heap.size+1]? =Y (M #[I J d0,I J (d1*256+d2),I J d3,X F',I J 0,X F',I J 0] 79 (0,0))/\Below (w.heap.size+1) (w.alloc (M #[I J 0,I J 0,I J 0,X F',I J 0,X F',I J 0] 79)) wx/\wx.heap.size=w.heap.size+2)
 case first=>
  have hd3:=hc3.out _ hB;obtain⟨x0,x1,x2,x3,x4,x5,x6⟩:=aB0 hR;obtain⟨f0,f1,f2,f3,f4,f5,f6⟩:=bJ5 hR;go_wp2_with fail
  go_meet;exact⟨Joins.block_setCell (i:=2) hR _,hB.setCell (p:=⟨w.heap.size+1,2,O⟩) (by simp) _,by simpa using hsz⟩
 case rest=>
 clear hR hB hsz x0;obtain⟨hR,hB,hsz⟩:=hcut;go_upto_region 10 with fail
 go_cut [] (fun wx=>wx.heap[w.heap.size+1]? =Y (M #[I J d0,I J (d1*256+d2),I J d3,X (d4%2==1),I J 0,X F',I J 0] 79 (0,0))/\Below (w.heap.size+1) (w.alloc (M #[I J 0,I J 0,I J 0,X F',I J 0,X F',I J 0] 79)) wx/\wx.heap.size=w.heap.size+2)
 case first=>
  have hd4:=hc4.out _ hB;obtain⟨x0,x1,x2,x3,x4,x5,x6⟩:=aB0 hR;obtain⟨f0,f1,f2,f3,f4,f5,f6⟩:=bJ5 hR;go_wp2_with fail
  go_meet;exact⟨Joins.block_setCell (i:=3) hR _,hB.setCell (p:=⟨w.heap.size+1,3,O⟩) (by simp) _,by simpa using hsz⟩
 case rest=>
 clear hR hB hsz;obtain⟨hR,hB,hsz⟩:=hcut;go_upto_region 11 with fail
 go_cut [] (fun wx=>wx.heap[w.heap.size+1]? =Y (M #[I J d0,I J (d1*256+d2),I J d3,X (d4%2==1),I J 0,X (d4 / 2%2==1),I J 0] 79 (0,0))/\Below (w.heap.size+1) (w.alloc (M #[I J 0,I J 0,I J 0,X F',I J 0,X F',I J 0] 79)) wx/\wx.heap.size=w.heap.size+2)
 case first=>
  have hd4:=hc4.out _ hB;obtain⟨x0,x1,x2,x3,x4,x5,x6⟩:=aB0 hR;obtain⟨f0,f1,f2,f3,f4,f5,f6⟩:=bJ5 hR;go_wp2_with fail
  go_meet;exact⟨Joins.block_setCell (i:=5) hR _,hB.setCell (p:=⟨w.heap.size+1,5,O⟩) (by simp) _,by simpa using hsz⟩
 case rest=>
 clear hR hB hsz;obtain⟨hR,hB,hsz⟩:=hcut;go_upto_region 12 with fail
 go_cut [] (fun wx=>wx.heap[w.heap.size+1]? =Y (M #[I J d0,I J (d1*256+d2),I J d3,X (d4%2==1),I J (d5*256+d6),X (d4 / 2%2==1),I J 0] 79 (0,0))/\Below (w.heap.size+1) (w.alloc (M #[I J 0,I J 0,I J 0,X F',I J 0,X F',I J 0] 79)) wx/\wx.heap.size=w.heap.size+2)
 case first=>
  go_wp2_with fail
  refine(tk5 _ hB).mono ?_;rintro e w1⟨rfl,hh1,b1⟩;have hR1:w1.heap[w.heap.size+1]? =_:=(congrArg (fun hp=>hp[w.heap.size+1]?) hh1).trans hR;have hs1:w1.heap.size=w.heap.size+2:=by rw[hh1];exact hsz
  have hB1:=hB.trans (b1.mono (by omega));obtain⟨x0,x1,x2,x3,x4,x5,x6⟩:=aB0 hR1;obtain⟨f0,f1,f2,f3,f4,f5,f6⟩:=bJ5 hR1;go_wp2_with fail
  go_meet;exact⟨Joins.block_setCell (i:=4) hR1 _,hB1.setCell (p:=⟨w.heap.size+1,4,O⟩) (by simp) _,by simpa using hs1⟩
 case rest=>
 clear hR hB hsz;obtain⟨hR,hB,hsz⟩:=hcut;go_upto_region 13 with fail
 go_cut [] (fun wx=>wx.heap[w.heap.size+1]? =Y (M #[I J d0,I J (d1*256+d2),I J d3,X (d4%2==1),I J (d5*256+d6),X (d4 / 2%2==1),I J (d7*256+d8)] 79 (0,0))/\Below (w.heap.size+1) (w.alloc (M #[I J 0,I J 0,I J 0,X F',I J 0,X F',I J 0] 79)) wx/\wx.heap.size=w.heap.size+2)
 case first=>
  go_wp2_with fail
  refine(tk7 _ hB).mono ?_;rintro e w1⟨rfl,hh1,b1⟩;have hR1:w1.heap[w.heap.size+1]? =_:=(congrArg (fun hp=>hp[w.heap.size+1]?) hh1).trans hR;have hs1:w1.heap.size=w.heap.size+2:=by rw[hh1];exact hsz
  have hB1:=hB.trans (b1.mono (by omega));obtain⟨x0,x1,x2,x3,x4,x5,x6⟩:=aB0 hR1;obtain⟨f0,f1,f2,f3,f4,f5,f6⟩:=bJ5 hR1;go_wp2_with fail
  go_meet;exact⟨Joins.block_setCell (i:=6) hR1 _,hB1.setCell (p:=⟨w.heap.size+1,6,O⟩) (by simp) _,by simpa using hs1⟩
 case rest=>
 clear hR hB hsz;obtain⟨hR,hB,hsz⟩:=hcut;clear tk1 tk5 tk7 hc0 hc3 hc4;obtain⟨x0,x1,x2,x3,x4,x5,x6⟩:=aB0 hR;have j1:(11:Int)<=(n:Int):=by omega
 have j2:(11:Int)<=(cap:Int):=by omega
 have j3:11<=cap:=by omega
 have HLn:Hid (Rec.len ⟨d0,d1*256+d2,d3,d4%2==1,d5*256+d6,d4 / 2%2==1,d7*256+d8⟩=11):=by show _=_;simp[Rec.len,hset]
 go_upto_region 14 with fail
 by_cases hf:Rec.fault ⟨d0,d1*256+d2,d3,d4%2==1,d5*256+d6,d4 / 2%2==1,d7*256+d8⟩=0
 .have HF:Hid (Rec.fault ⟨d0,d1*256+d2,d3,d4%2==1,d5*256+d6,d4 / 2%2==1,d7*256+d8⟩=0):=hf;have fit:=Rec.fit hf;have E0:=bC2 (aA3 (Rec.all_bytes fit)) (zF hb 11);have HP:Hid (decide (Rec.bytes ⟨d0,d1*256+d2,d3,d4%2==1,d5*256+d6,d4 / 2%2==1,d7*256+d8⟩=zs.take 11)=decide (Rec.bytes ⟨d0,d1*256+d2,d3,d4%2==1,d5*256+d6,d4 / 2%2==1,d7*256+d8⟩<+:zs)):=by
   show _=_;rw[<-xW,Rec.bytes_len,HLn.out];by_cases e:zs.take 11=Rec.bytes ⟨d0,d1*256+d2,d3,d4%2==1,d5*256+d6,d4 / 2%2==1,d7*256+d8⟩
   .simp[e]
   .simp[e,Ne.symm e]
  clear hf;by_cases hp:Rec.bytes ⟨d0,d1*256+d2,d3,d4%2==1,d5*256+d6,d4 / 2%2==1,d7*256+d8⟩<+:zs
  .rw[HP.out,decide_eq_true hp]at E0;have HV:Hid (cS zs=(⟨d0,d1*256+d2,d3,d4%2==1,d5*256+d6,d4 / 2%2==1,d7*256+d8⟩,11)):=by have:=pN (zs:=zs) (by rw[HU.out];exact HF.out) (by rw[HU.out];exact hp);rw[HU.out,HLn.out]at this;exact this
   clear hp HP;have HS:Hid (∀W',Below wc.heap.size wc W'->W'.cell? ⟨w.heap.size+1,0,O⟩=Y (I J (d0))/\W'.cell? ⟨w.heap.size+1,1,O⟩=Y (I J (d1*256+d2))/\W'.cell? ⟨w.heap.size+1,2,O⟩=Y (I J (d3))/\W'.cell? ⟨w.heap.size+1,3,O⟩=Y (X (d4%2==1))/\W'.cell? ⟨w.heap.size+1,4,O⟩=Y (I J (d5*256+d6))/\W'.cell? ⟨w.heap.size+1,5,O⟩=Y (X (d4 / 2%2==1))/\W'.cell? ⟨w.heap.size+1,6,O⟩=Y (I J (d7*256+d8))/\(convert 22 9 (Z (Y ⟨b,off,O⟩) 11 cap)).run prog W'= .ok (.string (strOfNums (zs.take 11))) W'/\Below wc.heap.size wc W'):=fun W' hb'=>⟨aC hb' x0,aC hb' x1,aC hb' x2,aC hb' x3,aC hb' x4,aC hb' x5,aC hb' x6,jB ((h.take (m:=11) (by omega)).below ((cD hB).trans (hb'.mono (cD hB).size))) cap,hb'⟩
   refine R0 (fun W'=>W'.cell? ⟨w.heap.size+1,0,O⟩=Y (I J (d0))/\W'.cell? ⟨w.heap.size+1,1,O⟩=Y (I J (d1*256+d2))/\W'.cell? ⟨w.heap.size+1,2,O⟩=Y (I J (d3))/\W'.cell? ⟨w.heap.size+1,3,O⟩=Y (X (d4%2==1))/\W'.cell? ⟨w.heap.size+1,4,O⟩=Y (I J (d5*256+d6))/\W'.cell? ⟨w.heap.size+1,5,O⟩=Y (X (d4 / 2%2==1))/\W'.cell? ⟨w.heap.size+1,6,O⟩=Y (I J (d7*256+d8))/\(convert 22 9 (Z (Y ⟨b,off,O⟩) 11 cap)).run prog W'= .ok (.string (strOfNums (zs.take 11))) W'/\Below wc.heap.size wc W') (HS.out _ u'.drew) (fun hH=>?_);refine R1 0 ?_;refine R6 1 (fun K hK=>?_);go_simp;refine(jZ (d0) (d1*256+d2) (d3) (d4%2==1) (d5*256+d6) (d4 / 2%2==1) (d7*256+d8) _).mono ?_;rintro e w1⟨rfl,b1⟩;rw[HF.out];have b1:=hH.2.2.2.2.2.2.2.2.trans (b1.mono (by simp));go_wp2_with fail
   refine hK.out _ _ ?_ (fun hH=>?_)
   .exact HS.out _ b1
   clear hK K;refine R5 2 3 4 7 8 ?_;refine R2 9 10 ?_;refine R6 5 (fun K hK=>?_);go_simp;refine(pS (d0) (d1*256+d2) (d3) (d4%2==1) (d5*256+d6) (d4 / 2%2==1) (d7*256+d8) _ fit).mono ?_;rw[HLn.out];rintro e w2⟨g,cp,rfl,own,b2⟩;have b2:=hH.2.2.2.2.2.2.2.2.trans (b2.mono b1.size);have hcv:=jB (w:=w2) (a:=Y ⟨g,0,O⟩) (n:=11) (zs:=Rec.bytes ⟨d0,d1*256+d2,d3,d4%2==1,d5*256+d6,d4 / 2%2==1,d7*256+d8⟩) (by simpa using aJ own) cp;go_wp2_with fail
   refine hK.out _ _ ?_ (fun hH=>?_)
   .exact HS.out _ b2
   clear hK K;refine R6 6 (fun K hK=>?_);go_simp;refine hK.out _ _ ?_ (fun hH=>?_)
   .exact hH
   clear hK K;refine R2 11 12 ?_;refine R7 ?_;clear hcv E0 HLn;have zc:=b2.size;have x0:=aC b2 x0;have x1:=aC b2 x1;have x2:=aC b2 x2;have x3:=aC b2 x3;have x4:=aC b2 x4;have x5:=aC b2 x5;have x6:=aC b2 x6;have bF:=hB.trans (b2.mono (by omega));have bF':Below (w.alloc (M #[I J 0,I J 0,I J 0,X F',I J 0,X F',I J 0] 79)).heap.size (w.alloc (M #[I J 0,I J 0,I J 0,X F',I J 0,X F',I J 0] 79)) w2:=by simpa using bF
   obtain⟨y0,y1,y2,y3,y4,y5,y6⟩:=aQ2 bF';have g0:=bF.frozen (p:=⟨w.heap.size,0,O⟩) (by simp);have g1:=bF.frozen (p:=⟨w.heap.size,1,O⟩) (by simp);have g2:=bF.frozen (p:=⟨w.heap.size,2,O⟩) (by simp);have g3:=bF.frozen (p:=⟨w.heap.size,3,O⟩) (by simp);have g4:=bF.frozen (p:=⟨w.heap.size,4,O⟩) (by simp);have g5:=bF.frozen (p:=⟨w.heap.size,5,O⟩) (by simp);have g6:=bF.frozen (p:=⟨w.heap.size,6,O⟩) (by simp);simp[go_sem]at g0 g1 g2 g3 g4 g5 g6;have bE:=cD bF;have zE:=aD y0;clear bF bF';go_wp2_with fail
   rw[HV.out];refine bodyPost_ret (v:=.tuple #[U #[I J (d0),I J (d1*256+d2),I J (d3),X (d4%2==1),I J (d5*256+d6),X (d4 / 2%2==1),I J (d7*256+d8)],I J 11]) (by simp[results,Tryz.results72,go_sem,zE,y0,y1,y2,y3,y4,y5,y6]) rfl ⟨rfl,?_⟩;repeat(first|with_reducible exact bE|with_reducible refine Below.drew ?_|with_reducible refine Below.alloc ?_ (by first|omega|(simp;done)|(simp;omega)) _|with_reducible refine Below.setCell ?_ (by simp) _)
  .rw[HP.out,decide_eq_false hp]at E0;have HV:Hid (cS zs=(Rec.zero,0)):=fO (by rw[HU.out];exact fun hh=>hp hh.2);clear hp HP;have HS:Hid (∀W',Below wc.heap.size wc W'->W'.cell? ⟨w.heap.size+1,0,O⟩=Y (I J (d0))/\W'.cell? ⟨w.heap.size+1,1,O⟩=Y (I J (d1*256+d2))/\W'.cell? ⟨w.heap.size+1,2,O⟩=Y (I J (d3))/\W'.cell? ⟨w.heap.size+1,3,O⟩=Y (X (d4%2==1))/\W'.cell? ⟨w.heap.size+1,4,O⟩=Y (I J (d5*256+d6))/\W'.cell? ⟨w.heap.size+1,5,O⟩=Y (X (d4 / 2%2==1))/\W'.cell? ⟨w.heap.size+1,6,O⟩=Y (I J (d7*256+d8))/\(convert 22 9 (Z (Y ⟨b,off,O⟩) 11 cap)).run prog W'= .ok (.string (strOfNums (zs.take 11))) W'/\Below wc.heap.size wc W'):=fun W' hb'=>⟨aC hb' x0,aC hb' x1,aC hb' x2,aC hb' x3,aC hb' x4,aC hb' x5,aC hb' x6,jB ((h.take (m:=11) (by omega)).below ((cD hB).trans (hb'.mono (cD hB).size))) cap,hb'⟩
   refine R0 (fun W'=>W'.cell? ⟨w.heap.size+1,0,O⟩=Y (I J (d0))/\W'.cell? ⟨w.heap.size+1,1,O⟩=Y (I J (d1*256+d2))/\W'.cell? ⟨w.heap.size+1,2,O⟩=Y (I J (d3))/\W'.cell? ⟨w.heap.size+1,3,O⟩=Y (X (d4%2==1))/\W'.cell? ⟨w.heap.size+1,4,O⟩=Y (I J (d5*256+d6))/\W'.cell? ⟨w.heap.size+1,5,O⟩=Y (X (d4 / 2%2==1))/\W'.cell? ⟨w.heap.size+1,6,O⟩=Y (I J (d7*256+d8))/\(convert 22 9 (Z (Y ⟨b,off,O⟩) 11 cap)).run prog W'= .ok (.string (strOfNums (zs.take 11))) W'/\Below wc.heap.size wc W') (HS.out _ u'.drew) (fun hH=>?_);refine R1 0 ?_;refine R6 1 (fun K hK=>?_);go_simp;refine(jZ (d0) (d1*256+d2) (d3) (d4%2==1) (d5*256+d6) (d4 / 2%2==1) (d7*256+d8) _).mono ?_;rintro e w1⟨rfl,b1⟩;rw[HF.out];have b1:=hH.2.2.2.2.2.2.2.2.trans (b1.mono (by simp));go_wp2_with fail
   refine hK.out _ _ ?_ (fun hH=>?_)
   .exact HS.out _ b1
   clear hK K;refine R5 2 3 4 7 8 ?_;refine R2 9 10 ?_;refine R6 5 (fun K hK=>?_);go_simp;refine(pS (d0) (d1*256+d2) (d3) (d4%2==1) (d5*256+d6) (d4 / 2%2==1) (d7*256+d8) _ fit).mono ?_;rw[HLn.out];rintro e w2⟨g,cp,rfl,own,b2⟩;have b2:=hH.2.2.2.2.2.2.2.2.trans (b2.mono b1.size);have hcv:=jB (w:=w2) (a:=Y ⟨g,0,O⟩) (n:=11) (zs:=Rec.bytes ⟨d0,d1*256+d2,d3,d4%2==1,d5*256+d6,d4 / 2%2==1,d7*256+d8⟩) (by simpa using aJ own) cp;go_wp2_with fail
   refine hK.out _ _ ?_ (fun hH=>?_)
   .exact HS.out _ b2
   clear hK K;refine R6 6 (fun K hK=>?_);go_simp;refine hK.out _ _ ?_ (fun hH=>?_)
   .exact hH
   clear hK K;refine R2 11 12 ?_;refine R7 ?_;clear hcv E0 HLn;have zc:=b2.size;have x0:=aC b2 x0;have x1:=aC b2 x1;have x2:=aC b2 x2;have x3:=aC b2 x3;have x4:=aC b2 x4;have x5:=aC b2 x5;have x6:=aC b2 x6;have bF:=hB.trans (b2.mono (by omega));have bF':Below (w.alloc (M #[I J 0,I J 0,I J 0,X F',I J 0,X F',I J 0] 79)).heap.size (w.alloc (M #[I J 0,I J 0,I J 0,X F',I J 0,X F',I J 0] 79)) w2:=by simpa using bF
   obtain⟨y0,y1,y2,y3,y4,y5,y6⟩:=aQ2 bF';have g0:=bF.frozen (p:=⟨w.heap.size,0,O⟩) (by simp);have g1:=bF.frozen (p:=⟨w.heap.size,1,O⟩) (by simp);have g2:=bF.frozen (p:=⟨w.heap.size,2,O⟩) (by simp);have g3:=bF.frozen (p:=⟨w.heap.size,3,O⟩) (by simp);have g4:=bF.frozen (p:=⟨w.heap.size,4,O⟩) (by simp);have g5:=bF.frozen (p:=⟨w.heap.size,5,O⟩) (by simp);have g6:=bF.frozen (p:=⟨w.heap.size,6,O⟩) (by simp);simp[go_sem]at g0 g1 g2 g3 g4 g5 g6;have bE:=cD bF;have zE:=aD y0;clear bF bF';go_wp2_with fail
   rw[HV.out];refine bodyPost_ret (v:=.tuple #[U #[I J 0,I J 0,I J 0,X F',I J 0,X F',I J 0],I J 0]) (by simp[results,Tryz.results72,go_sem,zE,y0,y1,y2,y3,y4,y5,y6]) rfl ⟨rfl,?_⟩;repeat(first|with_reducible exact bE|with_reducible refine Below.drew ?_|with_reducible refine Below.alloc ?_ (by first|omega|(simp;done)|(simp;omega)) _|with_reducible refine Below.setCell ?_ (by simp) _)
 .have HV:Hid (cS zs=(Rec.zero,0)):=fO (by rw[HU.out];exact fun hh=>hf hh.1);obtain⟨fc,hfc⟩:∃fc,fc=Rec.fault ⟨d0,d1*256+d2,d3,d4%2==1,d5*256+d6,d4 / 2%2==1,d7*256+d8⟩:=⟨_,rfl⟩
  rw[<-hfc]at hf;have HF:Hid (Rec.fault ⟨d0,d1*256+d2,d3,d4%2==1,d5*256+d6,d4 / 2%2==1,d7*256+d8⟩=fc):=hfc.symm;have hc:(fc !=0)=A':=by simpa using hf
  clear hfc hf;have HS:Hid (∀W',Below wc.heap.size wc W'->W'.cell? ⟨w.heap.size+1,0,O⟩=Y (I J (d0))/\W'.cell? ⟨w.heap.size+1,1,O⟩=Y (I J (d1*256+d2))/\W'.cell? ⟨w.heap.size+1,2,O⟩=Y (I J (d3))/\W'.cell? ⟨w.heap.size+1,3,O⟩=Y (X (d4%2==1))/\W'.cell? ⟨w.heap.size+1,4,O⟩=Y (I J (d5*256+d6))/\W'.cell? ⟨w.heap.size+1,5,O⟩=Y (X (d4 / 2%2==1))/\W'.cell? ⟨w.heap.size+1,6,O⟩=Y (I J (d7*256+d8))/\(convert 22 9 (Z (Y ⟨b,off,O⟩) 11 cap)).run prog W'= .ok (.string (strOfNums (zs.take 11))) W'/\Below wc.heap.size wc W'):=fun W' hb'=>⟨aC hb' x0,aC hb' x1,aC hb' x2,aC hb' x3,aC hb' x4,aC hb' x5,aC hb' x6,jB ((h.take (m:=11) (by omega)).below ((cD hB).trans (hb'.mono (cD hB).size))) cap,hb'⟩
  refine R0 (fun W'=>W'.cell? ⟨w.heap.size+1,0,O⟩=Y (I J (d0))/\W'.cell? ⟨w.heap.size+1,1,O⟩=Y (I J (d1*256+d2))/\W'.cell? ⟨w.heap.size+1,2,O⟩=Y (I J (d3))/\W'.cell? ⟨w.heap.size+1,3,O⟩=Y (X (d4%2==1))/\W'.cell? ⟨w.heap.size+1,4,O⟩=Y (I J (d5*256+d6))/\W'.cell? ⟨w.heap.size+1,5,O⟩=Y (X (d4 / 2%2==1))/\W'.cell? ⟨w.heap.size+1,6,O⟩=Y (I J (d7*256+d8))/\(convert 22 9 (Z (Y ⟨b,off,O⟩) 11 cap)).run prog W'= .ok (.string (strOfNums (zs.take 11))) W'/\Below wc.heap.size wc W') (HS.out _ u'.drew) (fun hH=>?_);refine R1 0 ?_;refine R6 1 (fun K hK=>?_);go_simp;refine(jZ (d0) (d1*256+d2) (d3) (d4%2==1) (d5*256+d6) (d4 / 2%2==1) (d7*256+d8) _).mono ?_;rintro e w1⟨rfl,b1⟩;rw[HF.out];have b1:=hH.2.2.2.2.2.2.2.2.trans (b1.mono (by simp));go_wp2_with fail
  refine hK.out _ _ ?_ (fun hH=>?_)
  .exact HS.out _ b1
  clear hK K;refine R8 2 (h:=R8 3 (h:=R9 4 (h:=R9 5 (h:=R9 6 (h:=J3 ?_)))));refine R9 7 (h:=R9 8 (h:=R9 9 (h:=R9 10 (h:=R9 11 (h:=J3 ?_)))));refine R1 12 ?_;refine R7 ?_;clear HLn;have zc:=b1.size;have bF:=hB.trans (b1.mono (by omega));have bF':Below (w.alloc (M #[I J 0,I J 0,I J 0,X F',I J 0,X F',I J 0] 79)).heap.size (w.alloc (M #[I J 0,I J 0,I J 0,X F',I J 0,X F',I J 0] 79)) w1:=by simpa using bF
  obtain⟨y0,y1,y2,y3,y4,y5,y6⟩:=aQ2 bF';have g0:=bF.frozen (p:=⟨w.heap.size,0,O⟩) (by simp);have g1:=bF.frozen (p:=⟨w.heap.size,1,O⟩) (by simp);have g2:=bF.frozen (p:=⟨w.heap.size,2,O⟩) (by simp);have g3:=bF.frozen (p:=⟨w.heap.size,3,O⟩) (by simp);have g4:=bF.frozen (p:=⟨w.heap.size,4,O⟩) (by simp);have g5:=bF.frozen (p:=⟨w.heap.size,5,O⟩) (by simp);have g6:=bF.frozen (p:=⟨w.heap.size,6,O⟩) (by simp);simp[go_sem]at g0 g1 g2 g3 g4 g5 g6;have bE:=cD bF;have zE:=aD y0;clear bF bF';go_wp2_with fail
  rw[HV.out];refine bodyPost_ret (v:=.tuple #[U #[I J 0,I J 0,I J 0,X F',I J 0,X F',I J 0],I J 0]) (by simp[results,Tryz.results72,go_sem,zE,y0,y1,y2,y3,y4,y5,y6]) rfl ⟨rfl,?_⟩;repeat(first|with_reducible exact bE|with_reducible refine Below.drew ?_|with_reducible refine Below.alloc ?_ (by first|omega|(simp;done)|(simp;omega)) _|with_reducible refine Below.setCell ?_ (by simp) _)
theorem cO5(a:Option Addr)(n cap:Nat)(zs:List Int)(w:World)(h:CellsAt w a n (bts zs))(hb:IsB zs)(hn:n<=1048576)(hcap:n<=cap):
  Calls prog 72 #[Z a n cap] w fun e w'=>e=R' (.tuple #[recV (cS zs).1,I J (cS zs).2])/\Below w.heap.size w w':=by
 by_cases h5:n<5
 .exact bL1 a n cap zs w h h5
 obtain⟨b,off,rfl,_⟩:=h.2 (by omega);cases hset:eU (zs.getD 0 0)
 .exact bL0 b off n cap zs w h hb hn hcap (by omega) hset
 by_cases h11:n<11
 .exact cO6 b off n cap zs w h hb hn hcap (by omega) h11 hset
 .exact bY7 b off n cap zs w h hb hn hcap (by omega) hset
theorem lL(h:CellsAt w a m xs)(hk:k<=m):CellsAt w a k (xs.take k):=by refine⟨by rw[List.length_take,h.1];omega,fun h0=>?_⟩;obtain⟨b,off,ha,hc⟩:=h.2 (by omega);refine⟨b,off,ha,fun i hi=>?_⟩;rw[hc i (by omega),List.getElem?_take,if_pos hi]
theorem sJ{b off:Nat}(h:CellsAt w (Y ⟨b,off,O⟩) m xs)(hk:k<=m):CellsAt w (Y ⟨b,off+k,O⟩) (m-k) (xs.drop k):=by refine⟨by rw[List.length_drop,h.1],fun hm=>?_⟩;obtain⟨b',off',ha,hc⟩:=h.2 (by omega);simp only[Option.some.injEq,Addr.mk.injEq,and_true]at ha;obtain⟨rfl,rfl⟩:=ha;refine⟨b,off+k,rfl,fun i hi=>?_⟩;rw[List.getElem?_drop,Nat.add_assoc,hc _ (by omega)]
theorem aD5(B o n cap:Nat)(r:Int)(ls:List Lock)(vs:List (Value×Value))(w:World)(own:OwnK 227 w B (Z (Y ⟨o,0,O⟩) n cap) n ls vs)(hn:n<=1048576)(hB:B<=w.heap.size):
  Calls prog 199 #[Z (Y ⟨o,0,O⟩) n cap,I J r] w fun e w'=>∃a' m c',e=R' (.tuple #[Z a' m c',I J (aX r ls)])/\OwnLk 227 w' B (Z a' m c') m (bO r ls)/\Below B w w':=by
 have HL:Hid (ls.length=n):=own.len;have HOwn:=hid own;have h1x:=hid own.one';have HCap:=hid (fH own.row);obtain⟨i0,hi0,hz0,hz1,hz2⟩:=info_parts Tryz.info227;go_enter func199,ntmps199
 go_wp2;go_loopw [6] (fun i wr=>∃k:Nat,k<=n/\i=I J k/\Hid (∀j,j<k->(aH ls j).r<r)/\wr=w) (fun i _=>n-(intOf i).toNat)
 case atStart=>exact⟨0,Nat.zero_le _,rfl,(fun j hj=>by omega),rfl⟩
 case round=>
  obtain⟨k,hk,rfl,HA,rfl⟩:=hrel;have HINS:(k<ls.length->r<(aH ls k).r)->Hid (aX r ls=k/\bO r ls=ls.take k++[⟨r,[],[]⟩]++ls.drop k):=fun hh=>cT1 (by have:=HL.out;omega) HA.out hh;by_cases hlt:k<n
  .have hkl:k<ls.length:=by have:=HL.out;omega
   obtain⟨ah,ch,aq,cq,hp,c0,c1,c2,f1,f2,o1,o2,ne,nr,ob1,ob2⟩:=own.one hlt;have HNX:Hid ((aH ls k).r<r->∀j,j<k+1->(aH ls j).r<r):=fun hh j hj=>by
    rcases Nat.lt_or_eq_of_le (Nat.le_of_lt_succ hj)with h1|h1
    .exact HA.out j h1
    .subst h1;exact hh
   have HYES:Hid ((aH ls k).r=r->aX r ls=k/\bO r ls=ls):=fun he=>cK8 (by omega) HA.out hkl he;generalize hrr:(aH ls k).r=rr at*;clear c1 c2 f1 f2 o1 o2 ne nr hp own;by_cases h1:rr<r
   .go_wp2;go_roundw;case rel=>exact⟨k+1,by omega,by go_num,HNX.out h1,trivial⟩
    case measure=>simp[intOf];omega
   .by_cases h2:rr=r
    .subst h2;have HY:=hid (HYES.out rfl);go_wp2;exact bodyPost_ret (v:=.tuple #[Z (Y ⟨o,0,O⟩) n cap,I J k]) (by simp[results,Tryz.results199,go_sem]) rfl ⟨_,_,_,by rw[HY.out.1],by rw[HY.out.2];exact⟨vs,HOwn.out⟩,u'⟩
    .have HY:=HINS (fun _=>by omega);clear HYES HNX HINS;obtain⟨oE,kE,lE⟩:=fE wr 227 3;have hkc:=HCap.out;have hC1:=((lL (aJ HOwn.out.row) (k:=k*3) (by omega)).below kE)
     have h1a:∀u∈(lcells ls vs).take (k*3),u.oneCell'=A':=fun u hu=>h1x.out u (List.mem_of_mem_take hu);have h1b:∀u∈(lcells ls vs).drop (k*3),u.oneCell'=A':=fun u hu=>h1x.out u (List.mem_of_mem_drop hu);have hs0:0+k<=4194304:=by omega
     have hs1:k+1<=4194304:=by omega
     have hs2:k+1+(n-k)<=4194304:=by omega
     go_wp2_with(first
      |(at_builtin
        refine bK underlying62 underlying62 hi0 hz0 hz1 hz2 rfl (by omega) (by omega) (.tmp 38) (.tmp 41) ?_ ?_ wr.heap.size (Z (Y ⟨wr.heap.size,0,O⟩) 0 0) 0 [] (Y ⟨o,0,O⟩) k cap ((lcells ls vs).take (k*3)) ?_ ?_ oE hC1 h1a hs0 kE.size ?_;exact rfl;exact rfl;exact rfl;exact rfl;intro a5 c5 w5 own5 gr5 at5;simp only[Nat.zero_add,List.nil_append]at own5⊢;have k5:Below wr.heap.size wr w5:=kE.grown gr5 kE.size (fun g hg=>(aG oE g hg).1);clear gr5 at5 hC1 oE kE lE;have kN:=f' w5 (M #[I J r,Z O 0 0,Z O 0 0] 227);have k6:=k5.trans (kN.mono k5.size))
      |(at_builtin
        refine bK underlying62 underlying62 hi0 hz0 hz1 hz2 rfl (by omega) (by omega) (.tmp 43) (.tmp 46) ?_ ?_ wr.heap.size (Z a5 k c5) k ((lcells ls vs).take (k*3)) _ 1 1 [I J r,Z O 0 0,Z O 0 0] ?_ ?_ (aF own5 kN) (pT w5 r O 0 0 O 0 0 _) (nK r O 0 0 O 0 0) hs1 k6.size ?_;exact rfl;exact rfl;exact rfl;exact rfl;intro a7 c7 w7 own7 gr7 at7;have k7:Below wr.heap.size wr w7:=k6.grown gr7 k6.size (fun g hg=>(aG own5 g hg).1);clear gr7 at7 own5 k6 kN k5;have hC2:=CellsAt.below (by have:=sJ (aJ HOwn.out.row) (k:=k*3) (by omega);rw[Nat.zero_add,<-Nat.sub_mul]at this;exact this) k7)
      |(at_builtin
        refine bK underlying62 underlying62 hi0 hz0 hz1 hz2 rfl (by omega) (by omega) (.tmp 48) (.tmp 51) ?_ ?_ wr.heap.size (Z a7 (k+1) c7) (k+1) _ (Y ⟨o,k*3,O⟩) (n-k) (cap-k) ((lcells ls vs).drop (k*3)) ?_ ?_ own7 hC2 h1b hs2 k7.size ?_;exact rfl;exact rfl;exact rfl;exact rfl;intro a8 c8 w8 own8 gr8 at8;have k8:Below wr.heap.size wr w8:=k7.grown gr8 k7.size (fun g hg=>(aG own7 g hg).1);have en:k+1+(n-k)=n+1:=by omega
        rw[en]at own8;have hat8:∀g,(Z a8 (n+1) c8).ownBlock=Y g->wr.heap.size<=g:=fun g hg=>(aG own8 g hg).1;have ownI:=hid (HOwn.out.ins hk (r:=r) (aP own8 hB) (lO k8 _) (fun g hg=>.inr (hat8 g hg)));have bI:=hid (k8.mono hB);clear gr8 at8 own7 k7 hC2 own8 hat8 k8;simp only[en]))
     exact bodyPost_ret (v:=.tuple #[Z a8 (n+1) c8,I J k]) (by simp[results,Tryz.results199,go_sem]) rfl ⟨_,_,_,by rw[HY.out.1],by rw[HY.out.2];exact⟨_,ownI.out⟩,bI.out⟩
  .have HY:=HINS (fun hh=>by have:=HL.out;omega);clear HINS;clear own;by_cases hck:cap=k
   .subst hck;obtain rfl:n=cap:=by have:=HCap.out;omega
    obtain⟨oE,kE,lE⟩:=fE wr 227 3;have hkc:=HCap.out;have hC1:=((lL (aJ HOwn.out.row) (k:=n*3) (by omega)).below kE)
    have h1a:∀u∈(lcells ls vs).take (n*3),u.oneCell'=A':=fun u hu=>h1x.out u (List.mem_of_mem_take hu);have h1b:∀u∈(lcells ls vs).drop (n*3),u.oneCell'=A':=fun u hu=>h1x.out u (List.mem_of_mem_drop hu);have hs0:0+n<=4194304:=by omega
    have hs1:n+1<=4194304:=by omega
    have hs2:n+1+0<=4194304:=by omega
    go_wp2_with(first
     |(at_builtin
       refine bK underlying62 underlying62 hi0 hz0 hz1 hz2 rfl (by omega) (by omega) (.tmp 38) (.tmp 41) ?_ ?_ wr.heap.size (Z (Y ⟨wr.heap.size,0,O⟩) 0 0) 0 [] (Y ⟨o,0,O⟩) n n ((lcells ls vs).take (n*3)) ?_ ?_ oE hC1 h1a hs0 kE.size ?_;exact rfl;exact rfl;exact rfl;exact rfl;intro a5 c5 w5 own5 gr5 at5;simp only[Nat.zero_add,List.nil_append]at own5⊢;have k5:Below wr.heap.size wr w5:=kE.grown gr5 kE.size (fun g hg=>(aG oE g hg).1);clear gr5 at5 hC1 oE kE lE;have kN:=f' w5 (M #[I J r,Z O 0 0,Z O 0 0] 227);have k6:=k5.trans (kN.mono k5.size))
     |(at_builtin
       refine bK underlying62 underlying62 hi0 hz0 hz1 hz2 rfl (by omega) (by omega) (.tmp 43) (.tmp 46) ?_ ?_ wr.heap.size (Z a5 n c5) n ((lcells ls vs).take (n*3)) _ 1 1 [I J r,Z O 0 0,Z O 0 0] ?_ ?_ (aF own5 kN) (pT w5 r O 0 0 O 0 0 _) (nK r O 0 0 O 0 0) hs1 k6.size ?_;exact rfl;exact rfl;exact rfl;exact rfl;intro a7 c7 w7 own7 gr7 at7;have k7:Below wr.heap.size wr w7:=k6.grown gr7 k6.size (fun g hg=>(aG own5 g hg).1);clear gr7 at7 own5 k6 kN k5;have hC2:=CellsAt.below (show CellsAt wr (Y ⟨o,0,O⟩) (0*3) ((lcells ls vs).drop (n*3))from⟨by rw[List.length_drop,HOwn.out.row.1];omega,fun h0=>by omega⟩) k7)
     |(at_builtin
       refine bK underlying62 underlying62 hi0 hz0 hz1 hz2 rfl (by omega) (by omega) (.tmp 48) (.tmp 51) ?_ ?_ wr.heap.size (Z a7 (n+1) c7) (n+1) _ (Y ⟨o,0,O⟩) 0 0 ((lcells ls vs).drop (n*3)) ?_ ?_ own7 hC2 h1b hs2 k7.size ?_;exact rfl;exact rfl;exact rfl;exact rfl;intro a8 c8 w8 own8 gr8 at8;have k8:Below wr.heap.size wr w8:=k7.grown gr8 k7.size (fun g hg=>(aG own7 g hg).1);have en:n+1+0=n+1:=by omega
       rw[en]at own8;have hat8:∀g,(Z a8 (n+1) c8).ownBlock=Y g->wr.heap.size<=g:=fun g hg=>(aG own8 g hg).1;have ownI:=hid (HOwn.out.ins hk (r:=r) (aP own8 hB) (lO k8 _) (fun g hg=>.inr (hat8 g hg)));have bI:=hid (k8.mono hB);clear gr8 at8 own7 k7 hC2 own8 hat8 k8;simp only[en]))
    exact bodyPost_ret (v:=.tuple #[Z a8 (n+1) c8,I J n]) (by simp[results,Tryz.results199,go_sem]) rfl ⟨_,_,_,by rw[HY.out.1],by rw[HY.out.2];exact⟨_,ownI.out⟩,bI.out⟩
   .skip
    obtain⟨oE,kE,lE⟩:=fE wr 227 3;have hkc:=HCap.out;have hC1:=((lL (aJ HOwn.out.row) (k:=k*3) (by omega)).below kE)
    have h1a:∀u∈(lcells ls vs).take (k*3),u.oneCell'=A':=fun u hu=>h1x.out u (List.mem_of_mem_take hu);have h1b:∀u∈(lcells ls vs).drop (k*3),u.oneCell'=A':=fun u hu=>h1x.out u (List.mem_of_mem_drop hu);have hs0:0+k<=4194304:=by omega
    have hs1:k+1<=4194304:=by omega
    have hs2:k+1+(n-k)<=4194304:=by omega
    go_wp2_with(first
     |(at_builtin
       refine bK underlying62 underlying62 hi0 hz0 hz1 hz2 rfl (by omega) (by omega) (.tmp 38) (.tmp 41) ?_ ?_ wr.heap.size (Z (Y ⟨wr.heap.size,0,O⟩) 0 0) 0 [] (Y ⟨o,0,O⟩) k cap ((lcells ls vs).take (k*3)) ?_ ?_ oE hC1 h1a hs0 kE.size ?_;exact rfl;exact rfl;exact rfl;exact rfl;intro a5 c5 w5 own5 gr5 at5;simp only[Nat.zero_add,List.nil_append]at own5⊢;have k5:Below wr.heap.size wr w5:=kE.grown gr5 kE.size (fun g hg=>(aG oE g hg).1);clear gr5 at5 hC1 oE kE lE;have kN:=f' w5 (M #[I J r,Z O 0 0,Z O 0 0] 227);have k6:=k5.trans (kN.mono k5.size))
     |(at_builtin
       refine bK underlying62 underlying62 hi0 hz0 hz1 hz2 rfl (by omega) (by omega) (.tmp 43) (.tmp 46) ?_ ?_ wr.heap.size (Z a5 k c5) k ((lcells ls vs).take (k*3)) _ 1 1 [I J r,Z O 0 0,Z O 0 0] ?_ ?_ (aF own5 kN) (pT w5 r O 0 0 O 0 0 _) (nK r O 0 0 O 0 0) hs1 k6.size ?_;exact rfl;exact rfl;exact rfl;exact rfl;intro a7 c7 w7 own7 gr7 at7;have k7:Below wr.heap.size wr w7:=k6.grown gr7 k6.size (fun g hg=>(aG own5 g hg).1);clear gr7 at7 own5 k6 kN k5;have hC2:=CellsAt.below (by have:=sJ (aJ HOwn.out.row) (k:=k*3) (by omega);rw[Nat.zero_add,<-Nat.sub_mul]at this;exact this) k7)
     |(at_builtin
       refine bK underlying62 underlying62 hi0 hz0 hz1 hz2 rfl (by omega) (by omega) (.tmp 48) (.tmp 51) ?_ ?_ wr.heap.size (Z a7 (k+1) c7) (k+1) _ (Y ⟨o,k*3,O⟩) (n-k) (cap-k) ((lcells ls vs).drop (k*3)) ?_ ?_ own7 hC2 h1b hs2 k7.size ?_;exact rfl;exact rfl;exact rfl;exact rfl;intro a8 c8 w8 own8 gr8 at8;have k8:Below wr.heap.size wr w8:=k7.grown gr8 k7.size (fun g hg=>(aG own7 g hg).1);have en:k+1+(n-k)=n+1:=by omega
       rw[en]at own8;have hat8:∀g,(Z a8 (n+1) c8).ownBlock=Y g->wr.heap.size<=g:=fun g hg=>(aG own8 g hg).1;have ownI:=hid (HOwn.out.ins hk (r:=r) (aP own8 hB) (lO k8 _) (fun g hg=>.inr (hat8 g hg)));have bI:=hid (k8.mono hB);clear gr8 at8 own7 k7 hC2 own8 hat8 k8;simp only[en]))
    exact bodyPost_ret (v:=.tuple #[Z a8 (n+1) c8,I J k]) (by simp[results,Tryz.results199,go_sem]) rfl ⟨_,_,_,by rw[HY.out.1],by rw[HY.out.2];exact⟨_,ownI.out⟩,bI.out⟩
end Go.Proofs.YtpbbokalojdooaaGreat
