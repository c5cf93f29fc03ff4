import Derived.Test.YtpbbokalojdooaaGreatWaj
namespace Go.Proofs.YtpbbokalojdooaaGreat
open Go.RowKit Ch Go.Proofs.Tryz
set_option linter.unusedSimpArgs false
set_option linter.unusedVariables false
set_option maxRecDepth 20000
set_option maxHeartbeats 8000000
open Value renaming int->I,slice->Z,bool->X,agg->U
open IntKind renaming i64->J
open Option renaming none->O,some->Y
open Obj renaming cells->M
open Ending renaming returned->R'
open Bool renaming true->A',false->F'
variable {cs:Array Value} {b:Bf} {c tx v:Int} {ls:List (List Row)} {bs:List Bf} {zs:List Int} {rs:List Rec} {B g k m p:Nat} {a:Option Addr} {t:TypeId} {rv:Value} {W w:World}
theorem aH1{u0 u1 u2 u3 u4 u5 u6:Value}(h:W.heap[g]? =Y (M #[u0,u1,u2,u3,u4,u5,u6] t (0,0))):
  W.cell? ⟨g,0,O⟩=Y u0/\W.cell? ⟨g,1,O⟩=Y u1/\W.cell? ⟨g,2,O⟩=Y u2/\W.cell? ⟨g,3,O⟩=Y u3/\W.cell? ⟨g,4,O⟩=Y u4/\W.cell? ⟨g,5,O⟩=Y u5/\W.cell? ⟨g,6,O⟩=Y u6:=
 ⟨C' h,C' h,C' h,C' h,C' h,C' h,C' h⟩
theorem bN4(h:W.heap[g]? =Y (M cs t (0,0))):
  W.frozen? ⟨g,0,O⟩=F'/\W.frozen? ⟨g,1,O⟩=F'/\W.frozen? ⟨g,2,O⟩=F'/\W.frozen? ⟨g,3,O⟩=F'/\W.frozen? ⟨g,4,O⟩=F'/\W.frozen? ⟨g,5,O⟩=F'/\W.frozen? ⟨g,6,O⟩=F':=
 ⟨Ax h _,Ax h _,Ax h _,Ax h _,Ax h _,Ax h _,Ax h _⟩
theorem aP2{u0 u1 u2 u3 u4 u5 u6:Value}(h:W.heap[g]? =Y (M #[u0,u1,u2,u3,u4,u5,u6] t (0,0)))(v0 v1 v2 v3 v4 v5 v6:Value):
  (((((((W.setCell ⟨g,0,O⟩ v0).setCell ⟨g,1,O⟩ v1).setCell ⟨g,2,O⟩ v2).setCell ⟨g,3,O⟩ v3).setCell ⟨g,4,O⟩ v4).setCell ⟨g,5,O⟩ v5).setCell ⟨g,6,O⟩ v6).heap[g]? =Y (M #[v0,v1,v2,v3,v4,v5,v6] t (0,0)):=by
 have h0:=Ah (i:=0) h v0;simp only[Bh,List.set_cons_zero]at h0;have h1:=Ah (i:=1) h0 v1;simp only[Bh,List.set_cons_zero,List.set_cons_succ]at h1;have h2:=Ah (i:=2) h1 v2;simp only[Bh,List.set_cons_zero,List.set_cons_succ]at h2;have h3:=Ah (i:=3) h2 v3;simp only[Bh,List.set_cons_zero,List.set_cons_succ]at h3;have h4:=Ah (i:=4) h3 v4;simp only[Bh,List.set_cons_zero,List.set_cons_succ]at h4;have h5:=Ah (i:=5) h4 v5;simp only[Bh,List.set_cons_zero,List.set_cons_succ]at h5;have h6:=Ah (i:=6) h5 v6;simp only[Bh,List.set_cons_zero,List.set_cons_succ]at h6;exact h6
theorem nU{A:World}(h:Below B A W)(hg:B<=g)(v0 v1 v2 v3 v4 v5 v6:Value):
  Below B A (((((((W.setCell ⟨g,0,O⟩ v0).setCell ⟨g,1,O⟩ v1).setCell ⟨g,2,O⟩ v2).setCell ⟨g,3,O⟩ v3).setCell ⟨g,4,O⟩ v4).setCell ⟨g,5,O⟩ v5).setCell ⟨g,6,O⟩ v6):=
 ((((((h.setCell (p:=⟨g,0,O⟩) hg v0).setCell (p:=⟨g,1,O⟩) hg v1).setCell (p:=⟨g,2,O⟩) hg v2).setCell (p:=⟨g,3,O⟩) hg v3).setCell (p:=⟨g,4,O⟩) hg v4).setCell (p:=⟨g,5,O⟩) hg v5).setCell (p:=⟨g,6,O⟩) hg v6
theorem vS(a:Option Addr)(n cap k:Nat)(zs:List Int)(w:World)(h:CellsAt w a n (bts zs))(hb:IsB zs)(hn:n<=1099511627776)(hk:k+1<n):
  Calls prog 111 #[Z a n cap,I J k] w fun e w'=>e=R' (I J (zs.getD k 0*256+zs.getD (k+1) 0))/\w'.heap=w.heap/\V' w w':=by
 refine(dI5 a n cap k zs w h hb hn hk).mono ?_;rintro e w'⟨he,q,rfl⟩;exact⟨he,by simp,Cj (Aa _ _) q⟩
theorem bP6(a:Option Addr)(n cap:Nat)(zs:List Int)(w:World)(h:CellsAt w a n (bts zs))(h5:n<5):
  Calls prog 72 #[Z a n cap] w fun e w'=>e=R' (.tuple #[recV (dJ zs).1,I J (dJ zs).2])/\V' w w':=by
 have HL:=h.len;have HV:Hid (dJ zs=(Rec.zero,0)):=iR (fun hh=>by have e1:=hh.2.length_le;have e2:=Rec.bytes_len (Ch.unp zs);have e3:=(Rec.len_bd (Ch.unp zs)).1;have e4:=HL.out;omega)
 have i5:(n:Int)<5:=by omega
 go_enter func72,ntmps72
 go_wp2_with fail
 rw[HV.out];refine Ae (v:=.tuple #[U #[I J 0,I J 0,I J 0,X F',I J 0,X F',I J 0],I J 0]) (by simp[results,Tryz.results72,go_sem]) rfl ⟨rfl,?_⟩;exact(Aa _ _).alloc z' _
theorem bP5(b off n cap:Nat)(zs:List Int)(w:World)(h:CellsAt w (Y ⟨b,off,O⟩) n (bts zs))(hb:IsB zs)(hn:n<=1048576)(hcap:n<=cap)(h5:5<=n)(hset:lL (zs.getD 0 0)=F'):
  Calls prog 72 #[Z (Y ⟨b,off,O⟩) n cap] w fun e w'=>e=R' (.tuple #[recV (dJ zs).1,I J (dJ zs).2])/\V' w w':=by
 have HL:=h.len;have h5':¬(n:Int)<5:=by omega
 have i0:(0:Int)<(n:Int):=by omega
 have i0n:0<n:=by omega
 obtain⟨b',off',hbo,hc0⟩:=h.at (show 0<n by omega);simp only[Af,Ap,Cn]at hbo;obtain⟨rfl,rfl⟩:=hbo;rw[Nat.add_zero]at hc0;obtain⟨p0,q0⟩:=hb 0;obtain⟨p1,q1⟩:=hb 1;obtain⟨p2,q2⟩:=hb 2;have tk1:=fun(W:World) (hW:Below (w.heap.size+1) (w.alloc (M #[I J 0,I J 0,I J 0,X F',I J 0,X F',I J 0] 79)) W)=>vS (Y ⟨b,off,O⟩) n cap 1 zs W (h.below (cO hW)) hb (by omega) (by omega);simp only[Nat.reduceAdd,Int.reduceNeg,Int.cast_ofNat_Int]at tk1;have HU:Hid (Ch.unp zs=⟨zs.getD 0 0,zs.getD 1 0*256+zs.getD 2 0,0,F',0,F',0⟩):=by show _=_;unfold Ch.unp;rw[hset];rfl
 generalize zs.getD 0 0=d0 at*;generalize zs.getD 1 0=d1 at*;generalize zs.getD 2 0=d2 at*;have hw0:IntKind.i64.wrap d0=d0:=Br d0 ⟨by omega,by omega⟩;go_enter func72,ntmps72
 go_upto_region 3 with fail
 go_cut [4] (fun s wx=>s= .pointer (Y ⟨w.heap.size+1,0,O⟩)/\wx.heap[w.heap.size+1]? =Y (M #[I J d0,I J (d1*256+d2),I J 0,X F',I J 0,X F',I J 0] 79 (0,0))/\Below (w.heap.size+1) (w.alloc (M #[I J 0,I J 0,I J 0,X F',I J 0,X F',I J 0] 79)) wx/\wx.heap.size=w.heap.size+2)
 case first=>
  have HS:Hid (∀W',Below (w.heap.size+1) (w.alloc (M #[I J 0,I J 0,I J 0,X F',I J 0,X F',I J 0] 79)) W'->W'.cell? ⟨b,off,O⟩=Y (I .u8 d0)/\Below (w.heap.size+1) (w.alloc (M #[I J 0,I J 0,I J 0,X F',I J 0,X F',I J 0] 79)) W'):=fun W' hb=>⟨(keep_cell (cO hb) hc0),hb⟩
  refine R0 (fun W'=>W'.cell? ⟨b,off,O⟩=Y (I .u8 d0)/\Below (w.heap.size+1) (w.alloc (M #[I J 0,I J 0,I J 0,X F',I J 0,X F',I J 0] 79)) W') (HS.out _ (Aa _ _).drew) (fun hH=>?_);refine R5 0 1 2 3 4 ?_;refine Dr (rs:=[5,7]) (by kernel_rfl) (by simp) ?_;refine Bi rfl (fun K hK=>?_) (Bi rfl (fun K hK=>?_) Dk);focus
   go_simp;refine(tk1 _ hH.2).mono ?_;rintro e w1⟨rfl,hh1,bq⟩;have bq:=hH.2.trans (bq.mono (by simp));go_wp2_with fail
   refine hK.out _ _ ?_ (fun hH=>?_)
   .exact HS.out _ bq
   clear hK K;refine R1 6 ?_;refine R6 7 (fun K hK=>?_);go_simp;refine hK.out _ _ ?_ (fun hH=>?_)
   .exact HS.out _ (hH.2.alloc (by first|(simp;done)|(have:=hH.2.size;simp at this;omega)) _)
   clear hK K;have zq:=bq.size;simp at zq;have hsq:w1.heap.size=w.heap.size+1:=by rw[hh1];simp
   refine R6 8 (fun K hK=>?_);go_simp;refine hK.out _ _ ?_ (fun hH=>?_)
   .exact HS.out _ (bq.alloc zq _)
   clear hK K;refine R7 ?_;go_wp2_with fail
   go_meet;exact⟨rfl,aP hsq.symm,bq.alloc zq _,by simp[hsq]⟩
  rotate_left;focus
   go_simp;refine hK.out _ _ ?_ (fun hH=>?_)
   .exact HS.out _ (hH.2.alloc (by first|(simp;done)|(have:=hH.2.size;simp at this;omega)) _)
   clear hK K;refine R6 5 (fun K hK=>?_);go_simp;refine(tk1 _ hH.2).mono ?_;rintro e w1⟨rfl,hh1,bq⟩;have bq:=hH.2.trans (bq.mono (by simp));go_wp2_with fail
   refine hK.out _ _ ?_ (fun hH=>?_)
   .exact HS.out _ bq
   clear hK K;refine R1 6 ?_;have hR:w1.heap[w.heap.size+1]? =Y (M #[I J 0,I J 0,I J 0,X F',I J 0,X F',I J 0] 79 (0,0)):=by rw[hh1];exact aP (by simp)
   have hsq:w1.heap.size=w.heap.size+2:=by rw[hh1];simp
   obtain⟨x0,x1,x2,x3,x4,x5,x6⟩:=aH1 hR;obtain⟨f0,f1,f2,f3,f4,f5,f6⟩:=bN4 hR;refine R6 8 (fun K hK=>?_);go_simp;refine hK.out _ _ ?_ (fun hH=>?_)
   .exact HS.out _ (nU bq (by omega) _ _ _ _ _ _ _)
   clear hK K;clear x0 x1 x2 x3 x4 x5 x6 f0 f1 f2 f3 f4 f5 f6;refine R7 ?_;go_wp2_with fail
   go_meet;exact⟨rfl,aP2 hR _ _ _ _ _ _ _,nU bq (by omega) _ _ _ _ _ _ _,by simp[hsq]⟩
  rotate_left
 case rest=>
 obtain⟨rfl,hR,hB,hsz⟩:=hcut;clear tk1 hc0;obtain⟨x0,x1,x2,x3,x4,x5,x6⟩:=aH1 hR;have j1:(5:Int)<=(n:Int):=by omega
 have j2:(5:Int)<=(cap:Int):=by omega
 have j3:5<=cap:=by omega
 have HLn:Hid (Rec.len ⟨d0,d1*256+d2,0,F',0,F',0⟩=5):=by show _=_;simp[Rec.len,hset]
 go_upto_region 14 with(go_at_call 112;refine(nX _ _).mono ?_;rintro e w1⟨rfl,hw1⟩;subst w1)
 by_cases hf:Rec.fault ⟨d0,d1*256+d2,0,F',0,F',0⟩=0
 .have HF:Hid (Rec.fault ⟨d0,d1*256+d2,0,F',0,F',0⟩=0):=hf;have fit:=Rec.fit hf;have E0:=cR5 (bD5 (Rec.all_bytes fit)) (bO7 hb 5);have HP:Hid (decide (Rec.bytes ⟨d0,d1*256+d2,0,F',0,F',0⟩=zs.take 5)=decide (Rec.bytes ⟨d0,d1*256+d2,0,F',0,F',0⟩<+:zs)):=by
   show _=_;rw[<-aO3,Rec.bytes_len,HLn.out];by_cases e:zs.take 5=Rec.bytes ⟨d0,d1*256+d2,0,F',0,F',0⟩
   .simp[e]
   .simp[e,Ne.symm e]
  clear hf;by_cases hp:Rec.bytes ⟨d0,d1*256+d2,0,F',0,F',0⟩<+:zs
  .rw[HP.out,Fa hp]at E0;have HV:Hid (dJ zs=(⟨d0,d1*256+d2,0,F',0,F',0⟩,5)):=by have:=uS (zs:=zs) (by rw[HU.out];exact HF.out) (by rw[HU.out];exact hp);rw[HU.out,HLn.out]at this;exact this
   clear hp HP;have HS:Hid (∀W',V' wc W'->W'.cell? ⟨w.heap.size+1,0,O⟩=Y (I J (d0))/\W'.cell? ⟨w.heap.size+1,1,O⟩=Y (I J (d1*256+d2))/\W'.cell? ⟨w.heap.size+1,2,O⟩=Y (I J (0))/\W'.cell? ⟨w.heap.size+1,3,O⟩=Y (X (F'))/\W'.cell? ⟨w.heap.size+1,4,O⟩=Y (I J (0))/\W'.cell? ⟨w.heap.size+1,5,O⟩=Y (X (F'))/\W'.cell? ⟨w.heap.size+1,6,O⟩=Y (I J (0))/\(convert 22 9 (Z (Y ⟨b,off,O⟩) 5 cap)).run prog W'= .ok (.string (strOfNums (zs.take 5))) W'/\V' wc W'):=fun W' hb'=>⟨keep_cell hb' x0,keep_cell hb' x1,keep_cell hb' x2,keep_cell hb' x3,keep_cell hb' x4,keep_cell hb' x5,keep_cell hb' x6,lS ((h.take (m:=5) (by omega)).below ((cO hB).trans (hb'.mono (cO hB).size))) cap,hb'⟩
   refine R0 (fun W'=>W'.cell? ⟨w.heap.size+1,0,O⟩=Y (I J (d0))/\W'.cell? ⟨w.heap.size+1,1,O⟩=Y (I J (d1*256+d2))/\W'.cell? ⟨w.heap.size+1,2,O⟩=Y (I J (0))/\W'.cell? ⟨w.heap.size+1,3,O⟩=Y (X (F'))/\W'.cell? ⟨w.heap.size+1,4,O⟩=Y (I J (0))/\W'.cell? ⟨w.heap.size+1,5,O⟩=Y (X (F'))/\W'.cell? ⟨w.heap.size+1,6,O⟩=Y (I J (0))/\(convert 22 9 (Z (Y ⟨b,off,O⟩) 5 cap)).run prog W'= .ok (.string (strOfNums (zs.take 5))) W'/\V' wc W') (HS.out _ (Aa _ _).drew) (fun hH=>?_);refine R1 0 ?_;refine R6 1 (fun K hK=>?_);go_simp;refine(mS (d0) (d1*256+d2) (0) (F') (0) (F') (0) _).mono ?_;rintro e w1⟨rfl,b1⟩;rw[HF.out];have b1:=hH.2.2.2.2.2.2.2.2.trans (b1.mono (by simp));go_wp2_with fail
   refine hK.out _ _ ?_ (fun hH=>?_)
   .exact HS.out _ b1
   clear hK K;refine R5 2 3 4 7 8 ?_;refine R2 9 10 ?_;refine R6 5 (fun K hK=>?_);go_simp;refine(qG (d0) (d1*256+d2) (0) (F') (0) (F') (0) _ fit).mono ?_;rw[HLn.out];rintro e w2⟨g,cp,rfl,own,b2⟩;have b2:=hH.2.2.2.2.2.2.2.2.trans (b2.mono b1.size);have hcv:=lS (w:=w2) (a:=Y ⟨g,0,O⟩) (n:=5) (zs:=Rec.bytes ⟨d0,d1*256+d2,0,F',0,F',0⟩) (by simpa using aO own) cp;go_wp2_with fail
   refine hK.out _ _ ?_ (fun hH=>?_)
   .exact HS.out _ b2
   clear hK K;refine R6 6 (fun K hK=>?_);go_simp;refine hK.out _ _ ?_ (fun hH=>?_)
   .exact hH
   clear hK K;refine R2 11 12 ?_;refine R7 ?_;clear hcv E0 HLn;have zc:=b2.size;have x0:=keep_cell b2 x0;have x1:=keep_cell b2 x1;have x2:=keep_cell b2 x2;have x3:=keep_cell b2 x3;have x4:=keep_cell b2 x4;have x5:=keep_cell b2 x5;have x6:=keep_cell b2 x6;have bF:=hB.trans (b2.mono (by omega));have bF':Below (w.alloc (M #[I J 0,I J 0,I J 0,X F',I J 0,X F',I J 0] 79)).heap.size (w.alloc (M #[I J 0,I J 0,I J 0,X F',I J 0,X F',I J 0] 79)) w2:=by simpa using bF
   obtain⟨y0,y1,y2,y3,y4,y5,y6⟩:=bZ4 bF';have g0:=bF.frozen (p:=⟨w.heap.size,0,O⟩) (by simp);have g1:=bF.frozen (p:=⟨w.heap.size,1,O⟩) (by simp);have g2:=bF.frozen (p:=⟨w.heap.size,2,O⟩) (by simp);have g3:=bF.frozen (p:=⟨w.heap.size,3,O⟩) (by simp);have g4:=bF.frozen (p:=⟨w.heap.size,4,O⟩) (by simp);have g5:=bF.frozen (p:=⟨w.heap.size,5,O⟩) (by simp);have g6:=bF.frozen (p:=⟨w.heap.size,6,O⟩) (by simp);simp[go_sem]at g0 g1 g2 g3 g4 g5 g6;have bE:=cO bF;have zE:=aD y0;clear bF bF';go_wp2_with fail
   rw[HV.out];refine Ae (v:=.tuple #[U #[I J (d0),I J (d1*256+d2),I J (0),X (F'),I J (0),X (F'),I J (0)],I J 5]) (by simp[results,Tryz.results72,go_sem,zE,y0,y1,y2,y3,y4,y5,y6]) rfl ⟨rfl,?_⟩;repeat(first|with_reducible exact bE|with_reducible refine Dw ?_|with_reducible refine De ?_ (by first|omega|(simp;done)|(simp;omega)) _|with_reducible refine Dj ?_ (by simp) _)
  .rw[HP.out,Fz hp]at E0;have HV:Hid (dJ zs=(Rec.zero,0)):=iR (by rw[HU.out];exact fun hh=>hp hh.2);clear hp HP;have HS:Hid (∀W',V' wc W'->W'.cell? ⟨w.heap.size+1,0,O⟩=Y (I J (d0))/\W'.cell? ⟨w.heap.size+1,1,O⟩=Y (I J (d1*256+d2))/\W'.cell? ⟨w.heap.size+1,2,O⟩=Y (I J (0))/\W'.cell? ⟨w.heap.size+1,3,O⟩=Y (X (F'))/\W'.cell? ⟨w.heap.size+1,4,O⟩=Y (I J (0))/\W'.cell? ⟨w.heap.size+1,5,O⟩=Y (X (F'))/\W'.cell? ⟨w.heap.size+1,6,O⟩=Y (I J (0))/\(convert 22 9 (Z (Y ⟨b,off,O⟩) 5 cap)).run prog W'= .ok (.string (strOfNums (zs.take 5))) W'/\V' wc W'):=fun W' hb'=>⟨keep_cell hb' x0,keep_cell hb' x1,keep_cell hb' x2,keep_cell hb' x3,keep_cell hb' x4,keep_cell hb' x5,keep_cell hb' x6,lS ((h.take (m:=5) (by omega)).below ((cO hB).trans (hb'.mono (cO hB).size))) cap,hb'⟩
   refine R0 (fun W'=>W'.cell? ⟨w.heap.size+1,0,O⟩=Y (I J (d0))/\W'.cell? ⟨w.heap.size+1,1,O⟩=Y (I J (d1*256+d2))/\W'.cell? ⟨w.heap.size+1,2,O⟩=Y (I J (0))/\W'.cell? ⟨w.heap.size+1,3,O⟩=Y (X (F'))/\W'.cell? ⟨w.heap.size+1,4,O⟩=Y (I J (0))/\W'.cell? ⟨w.heap.size+1,5,O⟩=Y (X (F'))/\W'.cell? ⟨w.heap.size+1,6,O⟩=Y (I J (0))/\(convert 22 9 (Z (Y ⟨b,off,O⟩) 5 cap)).run prog W'= .ok (.string (strOfNums (zs.take 5))) W'/\V' wc W') (HS.out _ (Aa _ _).drew) (fun hH=>?_);refine R1 0 ?_;refine R6 1 (fun K hK=>?_);go_simp;refine(mS (d0) (d1*256+d2) (0) (F') (0) (F') (0) _).mono ?_;rintro e w1⟨rfl,b1⟩;rw[HF.out];have b1:=hH.2.2.2.2.2.2.2.2.trans (b1.mono (by simp));go_wp2_with fail
   refine hK.out _ _ ?_ (fun hH=>?_)
   .exact HS.out _ b1
   clear hK K;refine R5 2 3 4 7 8 ?_;refine R2 9 10 ?_;refine R6 5 (fun K hK=>?_);go_simp;refine(qG (d0) (d1*256+d2) (0) (F') (0) (F') (0) _ fit).mono ?_;rw[HLn.out];rintro e w2⟨g,cp,rfl,own,b2⟩;have b2:=hH.2.2.2.2.2.2.2.2.trans (b2.mono b1.size);have hcv:=lS (w:=w2) (a:=Y ⟨g,0,O⟩) (n:=5) (zs:=Rec.bytes ⟨d0,d1*256+d2,0,F',0,F',0⟩) (by simpa using aO own) cp;go_wp2_with fail
   refine hK.out _ _ ?_ (fun hH=>?_)
   .exact HS.out _ b2
   clear hK K;refine R6 6 (fun K hK=>?_);go_simp;refine hK.out _ _ ?_ (fun hH=>?_)
   .exact hH
   clear hK K;refine R2 11 12 ?_;refine R7 ?_;clear hcv E0 HLn;have zc:=b2.size;have x0:=keep_cell b2 x0;have x1:=keep_cell b2 x1;have x2:=keep_cell b2 x2;have x3:=keep_cell b2 x3;have x4:=keep_cell b2 x4;have x5:=keep_cell b2 x5;have x6:=keep_cell b2 x6;have bF:=hB.trans (b2.mono (by omega));have bF':Below (w.alloc (M #[I J 0,I J 0,I J 0,X F',I J 0,X F',I J 0] 79)).heap.size (w.alloc (M #[I J 0,I J 0,I J 0,X F',I J 0,X F',I J 0] 79)) w2:=by simpa using bF
   obtain⟨y0,y1,y2,y3,y4,y5,y6⟩:=bZ4 bF';have g0:=bF.frozen (p:=⟨w.heap.size,0,O⟩) (by simp);have g1:=bF.frozen (p:=⟨w.heap.size,1,O⟩) (by simp);have g2:=bF.frozen (p:=⟨w.heap.size,2,O⟩) (by simp);have g3:=bF.frozen (p:=⟨w.heap.size,3,O⟩) (by simp);have g4:=bF.frozen (p:=⟨w.heap.size,4,O⟩) (by simp);have g5:=bF.frozen (p:=⟨w.heap.size,5,O⟩) (by simp);have g6:=bF.frozen (p:=⟨w.heap.size,6,O⟩) (by simp);simp[go_sem]at g0 g1 g2 g3 g4 g5 g6;have bE:=cO bF;have zE:=aD y0;clear bF bF';go_wp2_with fail
   rw[HV.out];refine Ae (v:=.tuple #[U #[I J 0,I J 0,I J 0,X F',I J 0,X F',I J 0],I J 0]) (by simp[results,Tryz.results72,go_sem,zE,y0,y1,y2,y3,y4,y5,y6]) rfl ⟨rfl,?_⟩;repeat(first|with_reducible exact bE|with_reducible refine Dw ?_|with_reducible refine De ?_ (by first|omega|(simp;done)|(simp;omega)) _|with_reducible refine Dj ?_ (by simp) _)
 .have HV:Hid (dJ zs=(Rec.zero,0)):=iR (by rw[HU.out];exact fun hh=>hf hh.1);obtain⟨fc,hfc⟩:∃fc,fc=Rec.fault ⟨d0,d1*256+d2,0,F',0,F',0⟩:=⟨_,rfl⟩
  rw[<-hfc]at hf;have HF:Hid (Rec.fault ⟨d0,d1*256+d2,0,F',0,F',0⟩=fc):=hfc.symm;have hc:(fc !=0)=A':=by simpa using hf
  clear hfc hf;have HS:Hid (∀W',V' wc W'->W'.cell? ⟨w.heap.size+1,0,O⟩=Y (I J (d0))/\W'.cell? ⟨w.heap.size+1,1,O⟩=Y (I J (d1*256+d2))/\W'.cell? ⟨w.heap.size+1,2,O⟩=Y (I J (0))/\W'.cell? ⟨w.heap.size+1,3,O⟩=Y (X (F'))/\W'.cell? ⟨w.heap.size+1,4,O⟩=Y (I J (0))/\W'.cell? ⟨w.heap.size+1,5,O⟩=Y (X (F'))/\W'.cell? ⟨w.heap.size+1,6,O⟩=Y (I J (0))/\(convert 22 9 (Z (Y ⟨b,off,O⟩) 5 cap)).run prog W'= .ok (.string (strOfNums (zs.take 5))) W'/\V' wc W'):=fun W' hb'=>⟨keep_cell hb' x0,keep_cell hb' x1,keep_cell hb' x2,keep_cell hb' x3,keep_cell hb' x4,keep_cell hb' x5,keep_cell hb' x6,lS ((h.take (m:=5) (by omega)).below ((cO hB).trans (hb'.mono (cO hB).size))) cap,hb'⟩
  refine R0 (fun W'=>W'.cell? ⟨w.heap.size+1,0,O⟩=Y (I J (d0))/\W'.cell? ⟨w.heap.size+1,1,O⟩=Y (I J (d1*256+d2))/\W'.cell? ⟨w.heap.size+1,2,O⟩=Y (I J (0))/\W'.cell? ⟨w.heap.size+1,3,O⟩=Y (X (F'))/\W'.cell? ⟨w.heap.size+1,4,O⟩=Y (I J (0))/\W'.cell? ⟨w.heap.size+1,5,O⟩=Y (X (F'))/\W'.cell? ⟨w.heap.size+1,6,O⟩=Y (I J (0))/\(convert 22 9 (Z (Y ⟨b,off,O⟩) 5 cap)).run prog W'= .ok (.string (strOfNums (zs.take 5))) W'/\V' wc W') (HS.out _ (Aa _ _).drew) (fun hH=>?_);refine R1 0 ?_;refine R6 1 (fun K hK=>?_);go_simp;refine(mS (d0) (d1*256+d2) (0) (F') (0) (F') (0) _).mono ?_;rintro e w1⟨rfl,b1⟩;rw[HF.out];have b1:=hH.2.2.2.2.2.2.2.2.trans (b1.mono (by simp));go_wp2_with fail
  refine hK.out _ _ ?_ (fun hH=>?_)
  .exact HS.out _ b1
  clear hK K;refine R8 2 (h:=R8 3 (h:=R9 4 (h:=R9 5 (h:=R9 6 (h:=J3 ?_)))));refine R9 7 (h:=R9 8 (h:=R9 9 (h:=R9 10 (h:=R9 11 (h:=J3 ?_)))));refine R1 12 ?_;refine R7 ?_;clear HLn;have zc:=b1.size;have bF:=hB.trans (b1.mono (by omega));have bF':Below (w.alloc (M #[I J 0,I J 0,I J 0,X F',I J 0,X F',I J 0] 79)).heap.size (w.alloc (M #[I J 0,I J 0,I J 0,X F',I J 0,X F',I J 0] 79)) w1:=by simpa using bF
  obtain⟨y0,y1,y2,y3,y4,y5,y6⟩:=bZ4 bF';have g0:=bF.frozen (p:=⟨w.heap.size,0,O⟩) (by simp);have g1:=bF.frozen (p:=⟨w.heap.size,1,O⟩) (by simp);have g2:=bF.frozen (p:=⟨w.heap.size,2,O⟩) (by simp);have g3:=bF.frozen (p:=⟨w.heap.size,3,O⟩) (by simp);have g4:=bF.frozen (p:=⟨w.heap.size,4,O⟩) (by simp);have g5:=bF.frozen (p:=⟨w.heap.size,5,O⟩) (by simp);have g6:=bF.frozen (p:=⟨w.heap.size,6,O⟩) (by simp);simp[go_sem]at g0 g1 g2 g3 g4 g5 g6;have bE:=cO bF;have zE:=aD y0;clear bF bF';go_wp2_with fail
  rw[HV.out];refine Ae (v:=.tuple #[U #[I J 0,I J 0,I J 0,X F',I J 0,X F',I J 0],I J 0]) (by simp[results,Tryz.results72,go_sem,zE,y0,y1,y2,y3,y4,y5,y6]) rfl ⟨rfl,?_⟩;repeat(first|with_reducible exact bE|with_reducible refine Dw ?_|with_reducible refine De ?_ (by first|omega|(simp;done)|(simp;omega)) _|with_reducible refine Dj ?_ (by simp) _)
theorem yG(b off:Nat)(ah:Option Addr)(nh ch:Nat)(aq:Option Addr)(nq cq:Nat)(l:Lock)(w:World)(h:LkOne w b off ah nh ch aq nq cq l)(hn:nh<=1048576)(hq:nq<=1048576)(hg:bO l.hs=A')(hG:bO l.qs=A'):
  Calls prog 195 #[.pointer (Y ⟨b,off,O⟩)] w fun e w'=>e=R' (X (eL l.hs l.qs))/\V' w w':=by
 obtain⟨r,hs,qs⟩:=l;obtain⟨c0,c1,c2,h3,h4,_,_,_,_⟩:=h;simp only at c0 h3 h4 hg hG⊢;have hbl:=aD c0;have HQ:=h4.hlen;have HS:=h3.hlen;have kd:=fun q=>(⟨rfl,rfl,rfl,z',fun _ _=>rfl⟩:V' w (w.drewN q))
 by_cases h0:nq=0
 .subst h0;obtain rfl:qs=[]:=Dd.1 (by have:=HQ.out;omega);go_enter func195,ntmps195
  go_wp2;go_quiet (fail)
  go_wp2;go_ret;exact⟨rfl,kd _⟩
 have hR:=hid (jY (hs:=hs) (qs:=qs) (by have:=HQ.out;omega));have h0':(0:Int)<(nq:Int):=by omega
 have hd0:decide (0<nq)=A':=by simp;omega
 obtain⟨bq,oq,rfl,q0,q1⟩:=h4.hold (k:=0) (by omega);have hqb:=aD q0;have hM:=jT hG (k:=0) (by have:=HQ.out;omega);generalize qs.getD 0 Hold.zero=x at*;obtain⟨xt,xm⟩:=x;simp only[Ep,Nat.add_zero]at q0 q1 hM hR;have hm:Ch.isM xm=A':=by unfold mN at hM;simp at hM;have:=hM.2;unfold Ch.isM inB at*;simp at*;omega
 have hA:(0<=Ch.atH hs xt)↔aV hs xt=A':=by
  rcases eI hs xt with⟨h1,h2,_⟩|⟨k,_,h2,h1,_⟩
  .rw[h1,h2];simp
  .rw[h1,h2];simp
 have IF:=fun n=>Calls.quiet_of_same (jD ah nh ch xt xm hs (w.drewN n) h3 hn hg hm);have IA:=fun n=>Calls.quiet_of_same (fZ ah nh ch xt hs (w.drewN n) h3 hn);obtain⟨A,HA⟩:∃A,A=Ch.atH hs xt:=⟨_,rfl⟩
 rw[<-HA]at hA IA;clear HA;cases hf:eR hs xt xm
 .rw[hf]at IF;go_enter func195,ntmps195
  go_wp2;go_quiet (first|(go_at_call 193;exact IF _)|(go_at_call 171;exact IA _))
  go_wp2;go_ret;exact⟨by rw[hR.out,hf,Ge];rfl,kd _⟩
 rw[hf]at IF;by_cases hAt:0<=A
 .have dA:decide (0<=A)=A':=by simpa using hAt
  have hB:=hid (hA.1 hAt);clear hA hAt;go_enter func195,ntmps195
  go_wp2;go_quiet (first|(go_at_call 193;exact IF _)|(go_at_call 171;exact IA _))
  go_wp2;go_ret;exact⟨by rw[hR.out,hf,hB.out];rfl,kd _⟩
 have dA:decide (0<=A)=F':=by simpa using hAt
 have hB:aV hs xt=F':=by cases hc:aV hs xt with|false=>rfl|true=>exact absurd (hA.2 hc) hAt
 replace hB:=hid hB;clear hA hAt;go_enter func195,ntmps195
 go_wp2;go_quiet (first|(go_at_call 193;exact IF _)|(go_at_call 171;exact IA _))
 go_wp2;go_ret;exact⟨by rw[hR.out,hf,hB.out,<-HS.out,Bool.false_or,Bool.and_true];simp;omega,kd _⟩
theorem bdN{q:Nat}{w':World}(h:Below B w w'):Below B w (w'.drewN q):=⟨h.os,h.tape,h.output,h.size,h.block⟩
theorem vA(b off:Nat)(ah:Option Addr)(nh ch:Nat)(aq:Option Addr)(nq cq:Nat)(l:Lock)(w:World)(h:LkOne w b off ah nh ch aq nq cq l)(hn:nh<=1048576)(hq:nq<=1048576)(hg:bO l.hs=A')(hG:bO l.qs=A'):
  Calls prog 194 #[.pointer (Y ⟨b,off,O⟩)] w fun e w'=>e=R' (X (Ch.qOk l.hs l.qs))/\V' w w':=by
 obtain⟨r,hs,qs⟩:=l;obtain⟨c0,c1,c2,h3,h4,_,_,_,_⟩:=h;simp only at c0 h3 h4 hg hG⊢;have hbl:=aD c0;have HQ:=h4.hlen;have HL:=h3.hlen;have HG:=hid hg;have HG2:=hid hG;clear hg hG;go_enter func194,ntmps194
 go_wp2;go_loopw [3,4] (fun q i wr=>∃(k:Nat) (p:Bool),k<=nq/\i=I J k/\q=X p/\Hid (p=decide (dB hs qs<k))/\Hid (∀j,j<k->mP hs qs j=A')/\V' w wr) (fun _ i _=>nq-(intOf i).toNat)
 case atStart=>exact⟨0,F',Ad _,rfl,rfl,(by show F'=_;simp),(fun j hj=>by omega),Aa _ _⟩
 case round=>
  obtain⟨k,p,hk,rfl,rfl,HP,HA,hB⟩:=hrel;have c1w:=keep_cell hB c1;have c2w:=keep_cell hB c2;have hblw:=aD c1w;by_cases hlt:k<nq
  .have hkl:k<qs.length:=by have:=HQ.out;omega
   have H1:=hid (fun he=>dA1 (hs:=hs) (qs:=qs) (k:=k) he);have H2:=hid (fun he hc=>cP6 (hs:=hs) (qs:=qs) (k:=k) hkl he hc);have H3:=hid (fun he=>xM (hs:=hs) (qs:=qs) (k:=k) he);have H4:=hid (fun he hc=>uI hkl (wF (hs:=hs) (qs:=qs) (k:=k) he hc));have H5:=hid (fun he hc=>uI hkl (aF0 (hs:=hs) (qs:=qs) (k:=k) he hc));have H6:=hid (fun he hc=>uI hkl (aO5 (hs:=hs) (qs:=qs) (k:=k) he hc));have H7:=hid (fun hc h1 h2=>aE9 (hs:=hs) (qs:=qs) (k:=k) hc h1 h2);have HM:=hid (jX (jT HG2.out hkl)).1;have h3w:=h3.below hB;obtain⟨qb,qo,rfl,q0,q1⟩:=(h4.below hB).hold hlt;have hqb:=aD q0;generalize qs.getD k Hold.zero=q at*;obtain⟨rt,rm⟩:=q;simp only at q0 q1 H1 H2 H3 H4 H5 H6 H7 HM;have IA:=fun n=>Calls.quiet_of_same (fZ ah nh ch rt hs (wr.drewN n) h3w hn);rcases eI hs rt with⟨he,HAT,_⟩|⟨j,hj,HAT,he,_,hmo⟩
   .have HN:=hid he;rw[HAT]at IA;clear he HAT;go_wp2;go_quiet (first|(go_at_call 171;exact IA _))
    go_wp2;go_roundw;case rel=>exact⟨k+1,A',by omega,by go_num,rfl,(by have:=H1.out HN.out;show A'=_;simp;omega),lM HA.out (H3.out HN.out),bdN hB⟩
    case measure=>simp[intOf];omega
   .have HN:=hid he;have HMO:=hid hmo;have HJ:=hid (jX (jT HG.out hj)).1;have hjn:j<nh:=by have:=HL.out;omega
    rw[HAT]at IA;clear he hmo HAT;obtain⟨hb,ho,rfl,p0,p1⟩:=h3w.hold hjn;have hhb:=aD p1;clear p0;generalize(hs.getD j Hold.zero).m=jm at*;have IC:=fun W=>sM rm jm W HM.out HJ.out;go_wp2;go_quiet (first|(go_at_call 171;exact IA _))
    go_wp2;cases p;rotate_left
    .have hkc:dB hs qs<=k:=by have:=HP.out;simp at this;omega
     go_quiet (fail)
     go_wp2;go_ret;exact⟨jK (H4.out HN.out hkc).symm,bdN (bdN hB)⟩
    have hkc:k<=dB hs qs:=by have:=HP.out;simp at this;omega
    have HKC:=hid (H2.out HN.out hkc);clear hkc;by_cases hrj:rm=jm
    .subst hrj;go_quiet (fail)
     go_wp2;go_ret;exact⟨jK (H5.out HN.out HMO.out.symm).symm,bdN (bdN hB)⟩
    have hrj':(rm==jm)=F':=by simpa using hrj
    have HRJ:=hid hrj;have hdj:decide (rm=jm)=F':=Fz hrj;cases hcv:Ch.tab pP rm jm
    .have HC:Hid (eJ rm jm=F'):=by show _=_;unfold eJ Ch.cov;rw[hcv];simp
     rw[hcv]at IC;go_quiet (first|(go_at_call 200;exact(IC _).mono fun _ _ h=>⟨h.1,_,h.2⟩))
     go_wp2;go_ret;exact⟨jK (H6.out HN.out (by rw[HMO.out];exact HC.out)).symm,bdN (bdN hB)⟩
    .have HC:Hid (eJ rm jm=A'):=by show _=_;unfold eJ Ch.cov;rw[hcv,HM.out,HJ.out];rfl
     rw[hcv]at IC;go_quiet (first|(go_at_call 200;exact(IC _).mono fun _ _ h=>⟨h.1,_,h.2⟩))
     go_wp2;go_roundw;case rel=>exact⟨k+1,F',by omega,by go_num,rfl,(by have:=HKC.out;show F'=_;simp;omega),lM HA.out (H7.out HKC.out (by rw[HMO.out];exact HRJ.out) (by rw[HMO.out];exact HC.out)),bdN hB⟩
     case measure=>simp[intOf];omega
  .obtain rfl:k=nq:=by omega
   go_wp2;go_ret;exact⟨jK (xL (by have:=HQ.out;rw[<-this];exact HA.out)).symm,hB⟩
theorem mM(a:Option Addr)(n cap:Nat)(t:Int)(ls:List Lock)(w:World)(h:LkAt w a n ls)(hs:dS ls<=1048576):
  Calls prog 152 #[Z a n cap,I J t] w fun e w'=>e=R' (I J (eH ls t))/\w'=w:=by
 have HL:=h.len;have hn:n<=1048576:=by unfold dS at hs;have:=HL.out;omega
 go_enter func152,ntmps152
 go_wp2;go_loop [5] (fun i=>∃k:Nat,k<=n/\i=I J k/\Hid (∀j,j<k->aV (aI ls j).qs t=F')) (fun i=>n-(intOf i).toNat)
 case atStart=>exact⟨0,Ad _,rfl,(fun j hj=>by omega)⟩
 case round=>
  obtain⟨k,hk,rfl,HA⟩:=hrel;by_cases hlt:k<n
  .have hkl:k<ls.length:=by have:=HL.out;omega
   have HSz:=hid (lF hs k);have HY:=hid (fun he=>aF8 hkl HA.out he);have HN:=hid (fun he=>qW (p:=fun j=>aV (aI ls j).qs t) HA.out he);obtain⟨b,off,ah,nh,ch,aq,nq,cq,rfl,c0,c1,c2,h3,h4,_,_,_,_⟩:=h.lock hlt;have hQ4:=h4.hlen;have hnq:nq<=1048576:=by have:=HSz.out;have:=hQ4.out;omega
   have hbl:=aD c0;have IH:=fun W hW=>fZ aq nq cq t (aI ls k).qs W hW hnq;clear HSz hQ4;generalize aI ls k=l at*;obtain⟨r,lhs,lqs⟩:=l;simp only at c0 h3 h4 IH HY HN;rcases eI lqs t with⟨he,HAT,_⟩|⟨j,hj,HAT,he,_⟩
   .have HE:=hid he;clear he;rw[HAT]at IH;go_wp2_with fail
    refine(IH _ h4).mono ?_;rintro e w1⟨rfl,hw⟩;obtain rfl:=hw.symm;go_wp2;go_round
    case rel=>exact⟨k+1,by omega,by go_num,HN.out HE.out⟩
    case measure=>simp[intOf];omega
   .have HE:=hid he;clear he;rw[HAT]at IH;go_wp2_with fail
    refine(IH _ h4).mono ?_;rintro e w1⟨rfl,hw⟩;obtain rfl:=hw.symm;go_wp2;go_ret;exact⟨cH (HY.out HE.out).1.symm,rfl⟩
  .obtain rfl:k=n:=by omega
   have HY:=hid (aF9 (ls:=ls) (t:=t) (by have:=HL.out;rw[<-this];exact HA.out));go_wp2;go_ret;exact⟨cH HY.out.1.symm,rfl⟩
section
open Go.Maps
theorem zL(hk:k<zs.length):(zs.take (k+1)).contains v=((zs.take k).contains v||(zs.getD k 0==v)):=by rw[bZ zs 0 k hk,Fe];simp only[Eg,Aj,Cp,Dy,Dx];exact or_congr_right ⟨fun h=>h.symm,fun h=>h.symm⟩
theorem aM1(hk:k<zs.length)(h:zs.getD k 0=v):zs.contains v=A':=by rw[Eg,<-h];simp[List.getD,hk]
theorem cT1(f:Nat)(hf:f=117\/f=12)(a:Option Addr)(n cap:Nat)(v:Int)(zs:List Int)(w:World)(h:CellsAt w a (n*1) (icells zs))(hn:n<=4194304):
  Calls prog f #[Z a n cap,I J v] w fun e w'=>e=R' (X (zs.contains v))/\w'=w:=by
 have HL:=h.ilen;obtain⟨c,HC⟩:∃c,Hid (zs.contains v=c):=⟨_,rfl⟩
 rw[HC.out];rcases hf with rfl|rfl
 .go_enter func117,ntmps117
  go_wp2;go_loop [5] (fun i=>∃k:Nat,k<=n/\i=I J k/\Hid ((zs.take k).contains v=F')) (fun i=>n-(intOf i).toNat)
  case atStart=>exact⟨0,Ad _,rfl,rfl⟩
  case round=>
   obtain⟨k,hk,rfl,HH⟩:=hrel;by_cases hlt:k<n
   .have hkl:k<zs.length:=by have:=HL.out;omega
    have HY:=hid (fun he=>aM1 (v:=v) hkl he);have HN:=hid (zL (v:=v) hkl);obtain⟨b,off,rfl,hc0⟩:=h.int hlt;have hbl:=aD hc0;generalize zs.getD k 0=z at*;by_cases he:z=v
    .replace HY:=hid (HY.out he);have e1:(z==v)=A':=by simpa using he
     clear he HN;go_wp2;go_ret;exact⟨jK (HY.out.symm.trans HC.out),rfl⟩
    .have e1:(z==v)=F':=by simpa using he
     rw[HH.out,e1]at HN;clear he HY;go_wp2;go_round
     case rel=>exact⟨k+1,by omega,by go_num,HN.out⟩
     case measure=>simp[intOf];omega
   .obtain rfl:k=n:=by omega
    go_wp2;go_ret;exact⟨jK (by have h1:=HH.out;have h2:=HL.out;rw[h2,Be]at h1;exact h1.symm.trans HC.out),rfl⟩
 .go_enter func12,ntmps12
  go_wp2;go_loop [5] (fun i=>∃k:Nat,k<=n/\i=I J k/\Hid ((zs.take k).contains v=F')) (fun i=>n-(intOf i).toNat)
  case atStart=>exact⟨0,Ad _,rfl,rfl⟩
  case round=>
   obtain⟨k,hk,rfl,HH⟩:=hrel;by_cases hlt:k<n
   .have hkl:k<zs.length:=by have:=HL.out;omega
    have HY:=hid (fun he=>aM1 (v:=v) hkl he);have HN:=hid (zL (v:=v) hkl);obtain⟨b,off,rfl,hc0⟩:=h.int hlt;have hbl:=aD hc0;generalize zs.getD k 0=z at*;by_cases he:z=v
    .replace HY:=hid (HY.out he);have e1:(z==v)=A':=by simpa using he
     clear he HN;go_wp2;go_ret;exact⟨jK (HY.out.symm.trans HC.out),rfl⟩
    .have e1:(z==v)=F':=by simpa using he
     rw[HH.out,e1]at HN;clear he HY;go_wp2;go_round
     case rel=>exact⟨k+1,by omega,by go_num,HN.out⟩
     case measure=>simp[intOf];omega
   .obtain rfl:k=n:=by omega
    go_wp2;go_ret;exact⟨jK (by have h1:=HH.out;have h2:=HL.out;rw[h2,Be]at h1;exact h1.symm.trans HC.out),rfl⟩
theorem bE1(a a2:Option Addr)(n cap n2 cap2:Nat)(cyc sys:List Int)(w:World)(h:CellsAt w a (n*1) (icells cyc))(h2:CellsAt w a2 (n2*1) (icells sys))(hn:n<=1048576)(hn2:n2<=1048576):
  Calls prog 184 #[Z a n cap,Z a2 n2 cap2] w fun e w'=>e=R' (I J (iG cyc sys).1)/\w'=w:=by
 have HL:=h.ilen;go_enter func184,ntmps184
 go_wp2;go_loop [5,6,7] (fun q s i=>∃(k:Nat) (b:Int) (y:Bool),k<=n/\i=I J k/\q=I J b/\s=X y/\Hid (iG (cyc.take k) sys=(b,y))) (fun _ _ i=>n-(intOf i).toNat)
 case atStart=>exact⟨0,0,F',Ad _,rfl,rfl,rfl,rfl⟩
 case round=>
  obtain⟨k,bst,y,hk,rfl,rfl,rfl,HH⟩:=hrel;by_cases hlt:k<n
  .have hkl:k<cyc.length:=by have:=HL.out;omega
   have HN:Hid (iG (cyc.take (k+1)) sys=qS sys (bst,y) (cyc.getD k 0)):=by show _=_;rw[bZ cyc 0 k hkl,aA8,HH.out]
   obtain⟨b,off,rfl,hc0⟩:=h.int hlt;have hbl:=aD hc0;generalize cyc.getD k 0=z at*;have IA:=fun W hW=>cT1 117 (.inl rfl) a2 n2 cap2 z sys W hW (by omega);unfold qS at HN;generalize sys.contains z=c at*;clear HH;cases y;all_goals cases c
   .by_cases hg:bst<z
    .have e1:Hid (iG (cyc.take (k+1)) sys=(z,F')):=by have:=HN.out;show _=_;simpa[hg]using this
     clear HN;go_wp2_with fail
     refine(IA _ h2).mono ?_;rintro e w1⟨rfl,rfl⟩;go_wp2;go_round
     case rel=>exact⟨k+1,z,F',by omega,by go_num,rfl,rfl,e1.out⟩
     case measure=>simp[intOf];omega
    .have e1:Hid (iG (cyc.take (k+1)) sys=(bst,F')):=by have:=HN.out;show _=_;simpa[hg]using this
     clear HN;go_wp2_with fail
     refine(IA _ h2).mono ?_;rintro e w1⟨rfl,rfl⟩;go_wp2;go_round
     case rel=>exact⟨k+1,bst,F',by omega,by go_num,rfl,rfl,e1.out⟩
     case measure=>simp[intOf];omega
   .have e1:Hid (iG (cyc.take (k+1)) sys=(z,A')):=by have:=HN.out;show _=_;simpa using this
    clear HN;go_wp2_with fail
    refine(IA _ h2).mono ?_;rintro e w1⟨rfl,rfl⟩;go_wp2;go_round
    case rel=>exact⟨k+1,z,A',by omega,by go_num,rfl,rfl,e1.out⟩
    case measure=>simp[intOf];omega
   .have e1:Hid (iG (cyc.take (k+1)) sys=(bst,A')):=by have:=HN.out;show _=_;simpa using this
    clear HN;go_wp2_with fail
    refine(IA _ h2).mono ?_;rintro e w1⟨rfl,rfl⟩;go_wp2;go_round
    case rel=>exact⟨k+1,bst,A',by omega,by go_num,rfl,rfl,e1.out⟩
    case measure=>simp[intOf];omega
   .by_cases hg:bst<z
    .have e1:Hid (iG (cyc.take (k+1)) sys=(z,A')):=by have:=HN.out;show _=_;simpa[hg]using this
     clear HN;go_wp2_with fail
     refine(IA _ h2).mono ?_;rintro e w1⟨rfl,rfl⟩;go_wp2;go_round
     case rel=>exact⟨k+1,z,A',by omega,by go_num,rfl,rfl,e1.out⟩
     case measure=>simp[intOf];omega
    .have e1:Hid (iG (cyc.take (k+1)) sys=(bst,A')):=by have:=HN.out;show _=_;simpa[hg]using this
     clear HN;go_wp2_with fail
     refine E' (IA _ h2) ?_;go_wp2;go_round
     case rel=>exact⟨k+1,bst,A',by omega,by go_num,rfl,rfl,e1.out⟩
     case measure=>simp[intOf];omega
  .obtain rfl:k=n:=by omega
   have HE:Hid ((iG cyc sys).1=bst):=by have h1:=HH.out;have h2:=HL.out;rw[h2,Be]at h1;show _=_;rw[h1]
   go_wp2;go_ret;exact⟨cH HE.out.symm,rfl⟩
end
def fS(tx:Int)(st:Int×List (List Row)×List Rec)(b:Bf):Int×List (List Row)×List Rec:=
 if st.1 !=0 then st else
  if(jF st.2.1 tx b.k b.h b.v).1 !=0 then((jF st.2.1 tx b.k b.h b.v).1,[],[])else
   (0,(jF st.2.1 tx b.k b.h b.v).2.1,st.2.2++[oG 3 st.2.1 tx b.k b.h b.v])
def cZ(tx:Int)(ls:List (List Row))(bs:List Bf):Int×List (List Row)×List Rec:=bs.foldr (fun b st=>fS tx st b) (0,ls,[])
theorem yU(h:(c !=0)=A'):fS tx (c,ls,rs) b=(c,ls,rs):=by unfold fS;rw[if_pos h]
theorem yV(hs:(jF ls tx b.k b.h b.v).1=c)(h:(c !=0)=A'):fS tx (0,ls,rs) b=(c,[],[]):=by unfold fS;simp only;rw[if_neg (by decide),hs,if_pos h]
theorem aI8(hs:(jF ls tx b.k b.h b.v).1=0):fS tx (0,ls,rs) b=(0,(jF ls tx b.k b.h b.v).2.1,rs++[oG 3 ls tx b.k b.h b.v]):=by unfold fS;simp only;rw[if_neg (by decide),hs,if_neg (by decide)]
theorem bL6(h:bs.length<=k):cZ tx ls (bs.drop k)=(0,ls,[]):=by rw[Cb h];rfl
theorem yW(h:k<bs.length):cZ tx ls (bs.drop k)=fS tx (cZ tx ls (bs.drop (k+1))) (bs.getD k Bf.zero):=by rw[uO h];rfl
theorem rT(hg:aL ls=0)(bs:List Bf):aW (cZ tx ls bs).2.1<=1048576/\(cZ tx ls bs).2.2.length<=bs.length/\((cZ tx ls bs).1=0->aL (cZ tx ls bs).2.1=0):=by
 induction bs with
 |nil=>exact⟨jC hg,by simp[cZ],fun _=>hg⟩
 |cons b bs ih=>
  have e:cZ tx ls (b::bs)=fS tx (cZ tx ls bs) b:=rfl;rw[e];obtain⟨h1,h2,h3⟩:=ih;generalize cZ tx ls bs=st at*;obtain⟨c,l,r⟩:=st;simp only at h1 h2 h3;by_cases hc:c=0
  .subst hc;by_cases hs:(jF l tx b.k b.h b.v).1=0
   .rw[aI8 hs];have hz:=aU6 (ls:=l) (tx:=tx) (key:=b.k) (v:=b.v) (has:=b.h);refine⟨hz.1,by simp;omega,fun _=>?_⟩;by_cases hf:jU l tx [⟨b.k,b.h,b.v⟩]=0
    .by_cases hm:(dU l b.k b.h b.v).1=0
     .rw[yM hf hm];exact sB hf hm
     .rw[tI hf rfl (by simpa using hm)]at hs;exact absurd hs hm
    .rw[aA3 rfl (by simpa using hf)]at hs;exact absurd hs hf
   .rw[yV rfl (by simpa using hs)];exact⟨by simp[aW],by simp,fun h=>absurd h hs⟩
  .rw[yU (by simpa using hc)];exact⟨h1,by simp;omega,h3⟩
def OwnU(w:World)(B:Nat)(lv:Value)(m:Nat)(ls:List (List Row))(rv:Value)(p:Nat)(rs:List Rec):Prop:=
 ∃vs lo hi,OwnV w B lv m vs ls/\w.ownsRow B 79 7 rv p (rc7 rs)/\B<=lo/\hi<=w.heap.size/\(∀g,lv.ownBlock=Y g->lo<=g/\g<hi)/\(∀(i:Nat) (x:Value) (g:Nat),vs[i]? =Y x->x.ownBlock=Y g->lo<=g/\g<hi)/\(∀g,rv.ownBlock=Y g->g<lo\/hi<=g)
theorem OwnU.base{B':Nat}{lv:Value}(h:OwnU w B lv m ls rv p rs)(hb:B'<=B):OwnU w B' lv m ls rv p rs:=by obtain⟨vs,lo,hi,h1,h2,h3,h4,h5⟩:=h;exact⟨vs,lo,hi,h1.base hb,aQ h2 hb,Ak hb h3,h4,h5⟩
theorem OwnU.none(w:World)(B:Nat):OwnU w B (Z O 0 0) 0 [] (Z O 0 0) 0 []:=by refine⟨[],B,0,⟨rfl,Aw _ _ _ _,fun i hi=>absurd hi (by omega),fun i j x y g _ hx=>by simp at hx,fun i x g hx=>by simp at hx⟩,Aw _ _ _ _,z',Ad _,fun g hg=>by simp[Value.ownBlock]at hg,fun i x g hx=>by simp at hx,fun g hg=>by simp[Value.ownBlock]at hg⟩
theorem OwnU.len{lv:Value}(h:OwnU w B lv m ls rv p rs):m=ls.length/\p=rs.length:=by obtain⟨vs,lo,hi,h1,h2,_⟩:=h;refine⟨h1.1.symm,?_⟩;have:=h2.1;rw[cR8]at this;omega
theorem OwnU.lv{cap:Nat}(h:OwnU w B (Z a m cap) m ls rv p rs)(hs:aW ls<=1048576):LvAt w a m ls:=by obtain⟨vs,lo,hi,h1,_⟩:=h;exact h1.own.at (dH2 hs)
end Go.Proofs.YtpbbokalojdooaaGreat
