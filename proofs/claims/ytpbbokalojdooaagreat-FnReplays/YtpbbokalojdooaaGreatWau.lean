import Derived.Test.YtpbbokalojdooaaGreatWas
namespace Go.Proofs.YtpbbokalojdooaaGreat
open Go.RowKit Ch Go.Proofs.Tryz
set_option linter.unusedSimpArgs false
set_option linter.unusedVariables false
set_option maxRecDepth 20000
set_option maxHeartbeats 8000000
open Value renaming int->I,slice->Z,bool->X,agg->U
open IntKind renaming i64->J
open Option renaming none->O,some->Y
open Obj renaming cells->M
open Ending renaming returned->R'
open Bool renaming true->A',false->F'
theorem aY9(w:World)(r s:Int)(t:TypeId):CellsAt (w.alloc (M #[I J r,I J s] t)) (Y ⟨w.heap.size,0,O⟩) (2*1) (icells [r,s]):=by
 refine⟨rfl,fun _=>⟨w.heap.size,0,rfl,fun i hi=>?_⟩⟩;match i,hi with
 |0,_=>simp[icells]
 |1,_=>simp[icells]
theorem dM5(p:Nat)(S:Sl)(a b v:Int)(w:World)(h:Slt w p S):
  Calls prog 49 #[.pointer (Y ⟨p,0,O⟩),U #[I J 1,I J a,I J b,I J v]] w fun e w'=>∃a' m c',e=R' (Z a' m c')/\m<=2097152/\w'.ownsRow w.heap.size 2 1 (Z a' m c') m (icells (cP 1 a b v (Ch.rowsS S)))/\V' w w':=by
 obtain⟨i0,hi0,hz0,hz1,hz2⟩:=Bz Tryz.info2;have b0:V' w (w.alloc (M #[I J 1,I J a,I J b,I J v] 54)):=(Aa _ _).alloc z' _;obtain⟨rs,HRS⟩:∃rs,Hid (Ch.rowsS S=rs):=⟨_,rfl⟩
 rw[HRS.out];go_enter func49,ntmps49
 go_wp2_with fail
 refine(sR p S _ (h.below b0)).mono ?_;rintro e w1⟨a0,n0,c0,rfl,hn,o1,b1⟩;rw[HRS.out]at o1;have hc:=aO o1;have hn:n0<=1048576:=by omega
 have x0:=aU b1 0;have x1:=aU b1 1;have x2:=aU b1 2;have x3:=aU b1 3;simp at x0 x1 x2 x3;have hb1:=aD x0;replace b1:=aZ b1;clear o1;have HL:=hc.rlen;go_wp2;go_loopw [5,11] (fun q i wr=>∃(j m:Nat) (a':Option Addr) (c':Nat),j<=n0/\m<=2*j/\i=I J j/\q=Z a' m c'/\wr.ownsRow w1.heap.size 2 1 (Z a' m c') m (icells (cP 1 a b v (rs.take j)))/\V' w1 wr) (fun _ i _=>n0-(intOf i).toNat)
 case atStart=>exact⟨0,0,O,0,Ad _,by omega,rfl,rfl,Aw _ _ _ _,Aa _ _⟩
 case round=>
  obtain⟨j,m,a',c',hj,hmj,rfl,rfl,own,hB⟩:=hrel;by_cases hlt:j<n0
  .have HT:=hid (iD 1 a b v (rs:=rs) (j:=j) (by have:=HL.out;omega));obtain⟨bb,off,rfl,q0,q1,q2⟩:=(hc.below hB).row hlt;have hbl:=aD q0;generalize rs.getD j Row.zero=r at*;obtain⟨rk,rv,rg⟩:=r;simp only at q0 q1 q2;have y0:=keep_cell hB x0;have y1:=keep_cell hB x1;have y2:=keep_cell hB x2;have y3:=keep_cell hB x3;have hby:=aD y0;generalize cP 1 a b v (rs.take j)=zs at*;by_cases hc2:(rk==a)=A'
   .have HQ:Hid (cP 1 a b v (rs.take (j+1))=zs++[rv]):=HT.out.trans (by rw[aQ0 hc2]);clear HT;have kW:V' wr (wr.alloc (M #[I J rk,I J rv,X rg] 86)):=(Aa _ _).alloc z' _;have own2:=aG own kW;have bz:=hB.size;have b2:=hB.trans (kW.mono (by have:=hB.size;(try simp at this);omega));have kQ:Below (wr.alloc (M #[I J rk,I J rv,X rg] 86)).heap.size (wr.alloc (M #[I J rk,I J rv,X rg] 86)) ((wr.alloc (M #[I J rk,I J rv,X rg] 86)).alloc (M #[I J rv] 2)):=(Aa _ _).alloc z' _;have own3:=aG own2 kQ;have hC3:=jE (wr.alloc (M #[I J rk,I J rv,X rg] 86)) rv 2;rw[show(wr.alloc (M #[I J rk,I J rv,X rg] 86)).heap.size=wr.heap.size+1 by simp]at hC3;have hb3:w1.heap.size<=((wr.alloc (M #[I J rk,I J rv,X rg] 86)).alloc (M #[I J rv] 2)).heap.size:=by simp at bz⊢;omega
    have b3:=b2.trans (kQ.mono (by have:=b2.size;simp at this⊢;omega));have hsum:m+1<=4194304:=by omega
    go_wp2_with(first|(at_builtin;go_must (refine bM underlying27 underlying27 hi0 hz0 hz1 hz2 rfl (by omega) (by omega) (.tmp 26) (.tmp 29) ?_ ?_ w1.heap.size (Z a' m c') m (icells zs) _ 1 1 (icells [rv]) ?_ ?_ own3 hC3 (dC [rv]) hsum hb3 ?_;exact rfl;exact rfl;exact rfl;exact rfl;intro a5 c5 w5 own5 gr5 at5;go_frame)))
    go_roundw;case rel=>rw[<-dW,<-HQ.out]at own5;exact⟨j+1,m+1,a5,c5,by omega,by omega,by go_num,rfl,own5,b3.grown gr5 (by have:=b3.size;simp at this⊢;omega) (fun g hg=>(aH own3 g hg).1)⟩
    case measure=>simp[intOf];omega
   .have hc3:(rk==a)=F':=by simpa using hc2
    clear hc2;have HQ:Hid (cP 1 a b v (rs.take (j+1))=zs):=HT.out.trans (by rw[aP9 hc3];simp);clear HT;have kW:V' wr (wr.alloc (M #[I J rk,I J rv,X rg] 86)):=(Aa _ _).alloc z' _;have own2:=aG own kW;have b2:=hB.trans (kW.mono (by have:=hB.size;(try simp at this);omega));go_wp2;go_roundw;case rel=>exact⟨j+1,m,a',c',by omega,by omega,by go_num,rfl,by rw[HQ.out];exact own2,b2⟩
    case measure=>simp[intOf];omega
  .obtain rfl:j=n0:=by omega
   go_wp2;go_ret;exact⟨a',m,c',rfl,by omega,aQ (by rw[Bb (by have:=HL.out;omega)]at own;exact own) b1.size,b1.trans (hB.mono b1.size)⟩
theorem dM7(p:Nat)(S:Sl)(a b v:Int)(w:World)(h:Slt w p S):
  Calls prog 49 #[.pointer (Y ⟨p,0,O⟩),U #[I J 4,I J a,I J b,I J v]] w fun e w'=>∃a' m c',e=R' (Z a' m c')/\m<=2097152/\w'.ownsRow w.heap.size 2 1 (Z a' m c') m (icells (cP 4 a b v (Ch.rowsS S)))/\V' w w':=by
 obtain⟨i0,hi0,hz0,hz1,hz2⟩:=Bz Tryz.info2;have b0:V' w (w.alloc (M #[I J 4,I J a,I J b,I J v] 54)):=(Aa _ _).alloc z' _;obtain⟨rs,HRS⟩:∃rs,Hid (Ch.rowsS S=rs):=⟨_,rfl⟩
 rw[HRS.out];go_enter func49,ntmps49
 go_wp2_with fail
 refine(sR p S _ (h.below b0)).mono ?_;rintro e w1⟨a0,n0,c0,rfl,hn,o1,b1⟩;rw[HRS.out]at o1;have hc:=aO o1;have hn:n0<=1048576:=by omega
 have x0:=aU b1 0;have x1:=aU b1 1;have x2:=aU b1 2;have x3:=aU b1 3;simp at x0 x1 x2 x3;have hb1:=aD x0;replace b1:=aZ b1;clear o1;have HL:=hc.rlen;go_wp2;go_loopw [5,11] (fun q i wr=>∃(j m:Nat) (a':Option Addr) (c':Nat),j<=n0/\m<=2*j/\i=I J j/\q=Z a' m c'/\wr.ownsRow w1.heap.size 2 1 (Z a' m c') m (icells (cP 4 a b v (rs.take j)))/\V' w1 wr) (fun _ i _=>n0-(intOf i).toNat)
 case atStart=>exact⟨0,0,O,0,Ad _,by omega,rfl,rfl,Aw _ _ _ _,Aa _ _⟩
 case round=>
  obtain⟨j,m,a',c',hj,hmj,rfl,rfl,own,hB⟩:=hrel;by_cases hlt:j<n0
  .have HT:=hid (iD 4 a b v (rs:=rs) (j:=j) (by have:=HL.out;omega));obtain⟨bb,off,rfl,q0,q1,q2⟩:=(hc.below hB).row hlt;have hbl:=aD q0;generalize rs.getD j Row.zero=r at*;obtain⟨rk,rv,rg⟩:=r;simp only at q0 q1 q2;have y0:=keep_cell hB x0;have y1:=keep_cell hB x1;have y2:=keep_cell hB x2;have y3:=keep_cell hB x3;have hby:=aD y0;generalize cP 4 a b v (rs.take j)=zs at*;by_cases hc1:a<=rk
   .by_cases hc2:rk<=b
    .have hin:inB rk a b=A':=by unfold inB;simp[hc1,hc2]
     have HQ:Hid (cP 4 a b v (rs.take (j+1))=zs++[rk,rv]):=HT.out.trans (by rw[aQ1 hin]);clear HT;have kW:V' wr (wr.alloc (M #[I J rk,I J rv,X rg] 86)):=(Aa _ _).alloc z' _;have own2:=aG own kW;have bz:=hB.size;have b2:=hB.trans (kW.mono (by have:=hB.size;(try simp at this);omega));have kQ:Below (wr.alloc (M #[I J rk,I J rv,X rg] 86)).heap.size (wr.alloc (M #[I J rk,I J rv,X rg] 86)) ((wr.alloc (M #[I J rk,I J rv,X rg] 86)).alloc (M #[I J rk,I J rv] 2)):=(Aa _ _).alloc z' _;have own3:=aG own2 kQ;have hC3:=aY9 (wr.alloc (M #[I J rk,I J rv,X rg] 86)) rk rv 2;rw[show(wr.alloc (M #[I J rk,I J rv,X rg] 86)).heap.size=wr.heap.size+1 by simp]at hC3;have hb3:w1.heap.size<=((wr.alloc (M #[I J rk,I J rv,X rg] 86)).alloc (M #[I J rk,I J rv] 2)).heap.size:=by simp at bz⊢;omega
     have b3:=b2.trans (kQ.mono (by have:=b2.size;simp at this⊢;omega));have hsum:m+2<=4194304:=by omega
     go_wp2_with(first|(at_builtin;go_must (refine bM underlying27 underlying27 hi0 hz0 hz1 hz2 rfl (by omega) (by omega) (.tmp 49) (.tmp 54) ?_ ?_ w1.heap.size (Z a' m c') m (icells zs) _ 2 2 (icells [rk,rv]) ?_ ?_ own3 hC3 (dC [rk,rv]) hsum hb3 ?_;exact rfl;exact rfl;exact rfl;exact rfl;intro a5 c5 w5 own5 gr5 at5;go_frame)))
     go_roundw;case rel=>rw[<-dW,<-HQ.out]at own5;exact⟨j+1,m+2,a5,c5,by omega,by omega,by go_num,rfl,own5,b3.grown gr5 (by have:=b3.size;simp at this⊢;omega) (fun g hg=>(aH own3 g hg).1)⟩
     case measure=>simp[intOf];omega
    .have hin:inB rk a b=F':=by unfold inB;simp;omega
     have HQ:Hid (cP 4 a b v (rs.take (j+1))=zs):=HT.out.trans (by rw[yN hin];simp);clear HT;have kW:V' wr (wr.alloc (M #[I J rk,I J rv,X rg] 86)):=(Aa _ _).alloc z' _;have own2:=aG own kW;have b2:=hB.trans (kW.mono (by have:=hB.size;(try simp at this);omega));go_wp2;go_roundw;case rel=>exact⟨j+1,m,a',c',by omega,by omega,by go_num,rfl,by rw[HQ.out];exact own2,b2⟩
     case measure=>simp[intOf];omega
   .have hin:inB rk a b=F':=by unfold inB;simp;omega
    have HQ:Hid (cP 4 a b v (rs.take (j+1))=zs):=HT.out.trans (by rw[yN hin];simp);clear HT;have kW:V' wr (wr.alloc (M #[I J rk,I J rv,X rg] 86)):=(Aa _ _).alloc z' _;have own2:=aG own kW;have b2:=hB.trans (kW.mono (by have:=hB.size;(try simp at this);omega));go_wp2;go_roundw;case rel=>exact⟨j+1,m,a',c',by omega,by omega,by go_num,rfl,by rw[HQ.out];exact own2,b2⟩
    case measure=>simp[intOf];omega
  .obtain rfl:j=n0:=by omega
   go_wp2;go_ret;exact⟨a',m,c',rfl,by omega,aQ (by rw[Bb (by have:=HL.out;omega)]at own;exact own) b1.size,b1.trans (hB.mono b1.size)⟩
theorem dM9(p:Nat)(S:Sl)(a b v:Int)(w:World)(h:Slt w p S):
  Calls prog 49 #[.pointer (Y ⟨p,0,O⟩),U #[I J 5,I J a,I J b,I J v]] w fun e w'=>∃a' m c',e=R' (Z a' m c')/\m<=2097152/\w'.ownsRow w.heap.size 2 1 (Z a' m c') m (icells (cP 5 a b v (Ch.rowsS S)))/\V' w w':=by
 obtain⟨i0,hi0,hz0,hz1,hz2⟩:=Bz Tryz.info2;have b0:V' w (w.alloc (M #[I J 5,I J a,I J b,I J v] 54)):=(Aa _ _).alloc z' _;obtain⟨rs,HRS⟩:∃rs,Hid (Ch.rowsS S=rs):=⟨_,rfl⟩
 rw[HRS.out];go_enter func49,ntmps49
 go_wp2_with fail
 refine(sR p S _ (h.below b0)).mono ?_;rintro e w1⟨a0,n0,c0,rfl,hn,o1,b1⟩;rw[HRS.out]at o1;have hc:=aO o1;have hn:n0<=1048576:=by omega
 have x0:=aU b1 0;have x1:=aU b1 1;have x2:=aU b1 2;have x3:=aU b1 3;simp at x0 x1 x2 x3;have hb1:=aD x0;replace b1:=aZ b1;clear o1;have HL:=hc.rlen;go_wp2;go_loopw [5,11] (fun q i wr=>∃(j m:Nat) (a':Option Addr) (c':Nat),j<=n0/\m<=2*j/\i=I J j/\q=Z a' m c'/\wr.ownsRow w1.heap.size 2 1 (Z a' m c') m (icells (cP 5 a b v (rs.take j)))/\V' w1 wr) (fun _ i _=>n0-(intOf i).toNat)
 case atStart=>exact⟨0,0,O,0,Ad _,by omega,rfl,rfl,Aw _ _ _ _,Aa _ _⟩
 case round=>
  obtain⟨j,m,a',c',hj,hmj,rfl,rfl,own,hB⟩:=hrel;by_cases hlt:j<n0
  .have HT:=hid (iD 5 a b v (rs:=rs) (j:=j) (by have:=HL.out;omega));obtain⟨bb,off,rfl,q0,q1,q2⟩:=(hc.below hB).row hlt;have hbl:=aD q0;generalize rs.getD j Row.zero=r at*;obtain⟨rk,rv,rg⟩:=r;simp only at q0 q1 q2;have y0:=keep_cell hB x0;have y1:=keep_cell hB x1;have y2:=keep_cell hB x2;have y3:=keep_cell hB x3;have hby:=aD y0;generalize cP 5 a b v (rs.take j)=zs at*;by_cases hc2:(rv==v)=A'
   .have HQ:Hid (cP 5 a b v (rs.take (j+1))=zs++[rk]):=HT.out.trans (by rw[aQ3 hc2]);clear HT;have kW:V' wr (wr.alloc (M #[I J rk,I J rv,X rg] 86)):=(Aa _ _).alloc z' _;have own2:=aG own kW;have bz:=hB.size;have b2:=hB.trans (kW.mono (by have:=hB.size;(try simp at this);omega));have kQ:Below (wr.alloc (M #[I J rk,I J rv,X rg] 86)).heap.size (wr.alloc (M #[I J rk,I J rv,X rg] 86)) ((wr.alloc (M #[I J rk,I J rv,X rg] 86)).alloc (M #[I J rk] 2)):=(Aa _ _).alloc z' _;have own3:=aG own2 kQ;have hC3:=jE (wr.alloc (M #[I J rk,I J rv,X rg] 86)) rk 2;rw[show(wr.alloc (M #[I J rk,I J rv,X rg] 86)).heap.size=wr.heap.size+1 by simp]at hC3;have hb3:w1.heap.size<=((wr.alloc (M #[I J rk,I J rv,X rg] 86)).alloc (M #[I J rk] 2)).heap.size:=by simp at bz⊢;omega
    have b3:=b2.trans (kQ.mono (by have:=b2.size;simp at this⊢;omega));have hsum:m+1<=4194304:=by omega
    go_wp2_with(first|(at_builtin;go_must (refine bM underlying27 underlying27 hi0 hz0 hz1 hz2 rfl (by omega) (by omega) (.tmp 67) (.tmp 70) ?_ ?_ w1.heap.size (Z a' m c') m (icells zs) _ 1 1 (icells [rk]) ?_ ?_ own3 hC3 (dC [rk]) hsum hb3 ?_;exact rfl;exact rfl;exact rfl;exact rfl;intro a5 c5 w5 own5 gr5 at5;go_frame)))
    go_roundw;case rel=>rw[<-dW,<-HQ.out]at own5;exact⟨j+1,m+1,a5,c5,by omega,by omega,by go_num,rfl,own5,b3.grown gr5 (by have:=b3.size;simp at this⊢;omega) (fun g hg=>(aH own3 g hg).1)⟩
    case measure=>simp[intOf];omega
   .have hc3:(rv==v)=F':=by simpa using hc2
    clear hc2;have HQ:Hid (cP 5 a b v (rs.take (j+1))=zs):=HT.out.trans (by rw[aQ2 hc3];simp);clear HT;have kW:V' wr (wr.alloc (M #[I J rk,I J rv,X rg] 86)):=(Aa _ _).alloc z' _;have own2:=aG own kW;have b2:=hB.trans (kW.mono (by have:=hB.size;(try simp at this);omega));go_wp2;go_roundw;case rel=>exact⟨j+1,m,a',c',by omega,by omega,by go_num,rfl,by rw[HQ.out];exact own2,b2⟩
    case measure=>simp[intOf];omega
  .obtain rfl:j=n0:=by omega
   go_wp2;go_ret;exact⟨a',m,c',rfl,by omega,aQ (by rw[Bb (by have:=HL.out;omega)]at own;exact own) b1.size,b1.trans (hB.mono b1.size)⟩
theorem dN1(p:Nat)(S:Sl)(k a b v:Int)(w:World)(h:Slt w p S)(hk:(k==1)=F'/\(k==4)=F'/\(k==5)=F'):
  Calls prog 49 #[.pointer (Y ⟨p,0,O⟩),U #[I J k,I J a,I J b,I J v]] w fun e w'=>∃a' m c',e=R' (Z a' m c')/\m<=2097152/\w'.ownsRow w.heap.size 2 1 (Z a' m c') m (icells (cP k a b v (Ch.rowsS S)))/\V' w w':=by
 obtain⟨i0,hi0,hz0,hz1,hz2⟩:=Bz Tryz.info2;obtain⟨k1,k4,k5⟩:=hk;have b0:V' w (w.alloc (M #[I J k,I J a,I J b,I J v] 54)):=(Aa _ _).alloc z' _;obtain⟨rs,HRS⟩:∃rs,Hid (Ch.rowsS S=rs):=⟨_,rfl⟩
 rw[HRS.out];go_enter func49,ntmps49
 go_wp2_with fail
 refine(sR p S _ (h.below b0)).mono ?_;rintro e w1⟨a0,n0,c0,rfl,hn,o1,b1⟩;rw[HRS.out]at o1;have hc:=aO o1;have hn:n0<=1048576:=by omega
 have x0:=aU b1 0;have x1:=aU b1 1;have x2:=aU b1 2;have x3:=aU b1 3;simp at x0 x1 x2 x3;have hb1:=aD x0;replace b1:=aZ b1;clear o1;have HL:=hc.rlen;go_wp2;go_loopw [5,11] (fun q i wr=>∃(j m:Nat) (a':Option Addr) (c':Nat),j<=n0/\m<=2*j/\i=I J j/\q=Z a' m c'/\wr.ownsRow w1.heap.size 2 1 (Z a' m c') m (icells (cP k a b v (rs.take j)))/\V' w1 wr) (fun _ i _=>n0-(intOf i).toNat)
 case atStart=>exact⟨0,0,O,0,Ad _,by omega,rfl,rfl,Aw _ _ _ _,Aa _ _⟩
 case round=>
  obtain⟨j,m,a',c',hj,hmj,rfl,rfl,own,hB⟩:=hrel;by_cases hlt:j<n0
  .have HT:=hid (iD k a b v (rs:=rs) (j:=j) (by have:=HL.out;omega));obtain⟨bb,off,rfl,q0,q1,q2⟩:=(hc.below hB).row hlt;have hbl:=aD q0;generalize rs.getD j Row.zero=r at*;obtain⟨rk,rv,rg⟩:=r;simp only at q0 q1 q2;have y0:=keep_cell hB x0;have y1:=keep_cell hB x1;have y2:=keep_cell hB x2;have y3:=keep_cell hB x3;have hby:=aD y0;generalize cP k a b v (rs.take j)=zs at*;have HQ:Hid (cP k a b v (rs.take (j+1))=zs):=HT.out.trans (by rw[tX ⟨k1,k4,k5⟩];simp);clear HT;have kW:V' wr (wr.alloc (M #[I J rk,I J rv,X rg] 86)):=(Aa _ _).alloc z' _;have own2:=aG own kW;have b2:=hB.trans (kW.mono (by have:=hB.size;(try simp at this);omega));go_wp2;go_roundw;case rel=>exact⟨j+1,m,a',c',by omega,by omega,by go_num,rfl,by rw[HQ.out];exact own2,b2⟩
   case measure=>simp[intOf];omega
  .obtain rfl:j=n0:=by omega
   go_wp2;go_ret;exact⟨a',m,c',rfl,by omega,aQ (by rw[Bb (by have:=HL.out;omega)]at own;exact own) b1.size,b1.trans (hB.mono b1.size)⟩
theorem dM6(a0:Option Addr)(n0 c0:Nat)(rs:List Row)(a b v:Int)(w:World)(h:CellsAt w a0 (n0*3) (rcells rs))(hn:n0<=1048576):
  Calls prog 90 #[Z a0 n0 c0,U #[I J 1,I J a,I J b,I J v]] w fun e w'=>∃a' m c',e=R' (Z a' m c')/\m<=2097152/\w'.ownsRow w.heap.size 2 1 (Z a' m c') m (icells (cP 1 a b v rs))/\V' w w':=by
 obtain⟨i0,hi0,hz0,hz1,hz2⟩:=Bz Tryz.info2;have HL:=h.rlen;have oE:=gE (w.alloc (M #[I J 1,I J a,I J b,I J v] 54)) w.heap.size 2 1 (by simp);have b0:V' w (w.alloc (M #[I J 1,I J a,I J b,I J v] 54)):=(Aa _ _).alloc z' _;have kE:V' w ((w.alloc (M #[I J 1,I J a,I J b,I J v] 54)).alloc (M #[] 2)):=b0.alloc b0.size _;have hx:∀W,Below (w.heap.size+1) (w.alloc (M #[I J 1,I J a,I J b,I J v] 54)) W->W.cell? ⟨w.heap.size,0,O⟩=Y (I J 1)/\W.cell? ⟨w.heap.size,1,O⟩=Y (I J a)/\W.cell? ⟨w.heap.size,2,O⟩=Y (I J b)/\W.cell? ⟨w.heap.size,3,O⟩=Y (I J v):=by
  intro W hW;have e:w.heap.size+1=(w.alloc (M #[I J 1,I J a,I J b,I J v] 54)).heap.size:=by simp
  rw[e]at hW;exact⟨aU hW 0,aU hW 1,aU hW 2,aU hW 3⟩
 have HX:=hid hx;clear hx;have oE':((w.alloc (M #[I J 1,I J a,I J b,I J v] 54)).alloc (M #[] 2)).ownsRow (w.heap.size+1) 2 1 (Z (Y ⟨w.heap.size+1,0,O⟩) 0 0) 0 []:=by have:=gE (w.alloc (M #[I J 1,I J a,I J b,I J v] 54)) (w.heap.size+1) 2 1 (by simp);simpa using this
 have kE':Below (w.heap.size+1) (w.alloc (M #[I J 1,I J a,I J b,I J v] 54)) ((w.alloc (M #[I J 1,I J a,I J b,I J v] 54)).alloc (M #[] 2)):=(Aa _ _).alloc (by simp) _;clear oE;go_enter func90,ntmps90
 go_wp2;go_loopw [5,6] (fun q i wr=>∃(j m:Nat) (a':Option Addr) (c':Nat),j<=n0/\m<=2*j/\i=I J j/\q=Z a' m c'/\wr.ownsRow (w.heap.size+1) 2 1 (Z a' m c') m (icells (cP 1 a b v (rs.take j)))/\Below (w.heap.size+1) (w.alloc (M #[I J 1,I J a,I J b,I J v] 54)) wr) (fun _ i _=>n0-(intOf i).toNat)
 case atStart=>exact⟨0,0,_,_,Ad _,by omega,rfl,rfl,oE',kE'⟩
 case round=>
  obtain⟨j,m,a',c',hj,hmj,rfl,rfl,own,hB⟩:=hrel;by_cases hlt:j<n0
  .have HT:=hid (iD 1 a b v (rs:=rs) (j:=j) (by have:=HL.out;omega));obtain⟨bb,off,rfl,q0,q1,q2⟩:=(h.below (b0.trans (hB.mono (by simp)))).row hlt;have hbl:=aD q0;generalize rs.getD j Row.zero=r at*;obtain⟨rk,rv,rg⟩:=r;simp only at q0 q1 q2;obtain⟨y0,y1,y2,y3⟩:=HX.out _ hB;have hby:=aD y0;generalize cP 1 a b v (rs.take j)=zs at*;by_cases hc2:(rk==a)=A'
   .have HQ:Hid (cP 1 a b v (rs.take (j+1))=zs++[rv]):=HT.out.trans (by rw[aQ0 hc2]);clear HT;have kW:V' wr (wr.alloc (M #[I J rk,I J rv,X rg] 86)):=(Aa _ _).alloc z' _;have own2:=aG own kW;have bz:=hB.size;have b2:=hB.trans (kW.mono (by have:=hB.size;(try simp at this);omega));have kQ:Below (wr.alloc (M #[I J rk,I J rv,X rg] 86)).heap.size (wr.alloc (M #[I J rk,I J rv,X rg] 86)) ((wr.alloc (M #[I J rk,I J rv,X rg] 86)).alloc (M #[I J rv] 2)):=(Aa _ _).alloc z' _;have own3:=aG own2 kQ;have hC3:=jE (wr.alloc (M #[I J rk,I J rv,X rg] 86)) rv 2;rw[show(wr.alloc (M #[I J rk,I J rv,X rg] 86)).heap.size=wr.heap.size+1 by simp]at hC3;have hb3:(w.heap.size+1)<=((wr.alloc (M #[I J rk,I J rv,X rg] 86)).alloc (M #[I J rv] 2)).heap.size:=by simp at bz⊢;omega
    have b3:=b2.trans (kQ.mono (by have:=b2.size;simp at this⊢;omega));have hsum:m+1<=4194304:=by omega
    go_wp2_with(first|(at_builtin;go_must (refine bM underlying27 underlying27 hi0 hz0 hz1 hz2 rfl (by omega) (by omega) (.tmp 28) (.tmp 31) ?_ ?_ (w.heap.size+1) (Z a' m c') m (icells zs) _ 1 1 (icells [rv]) ?_ ?_ own3 hC3 (dC [rv]) hsum hb3 ?_;exact rfl;exact rfl;exact rfl;exact rfl;intro a5 c5 w5 own5 gr5 at5;go_frame)))
    go_roundw;case rel=>rw[<-dW,<-HQ.out]at own5;exact⟨j+1,m+1,a5,c5,by omega,by omega,by go_num,rfl,own5,b3.grown gr5 (by have:=b3.size;simp at this⊢;omega) (fun g hg=>(aH own3 g hg).1)⟩
    case measure=>simp[intOf];omega
   .have hc3:(rk==a)=F':=by simpa using hc2
    clear hc2;have HQ:Hid (cP 1 a b v (rs.take (j+1))=zs):=HT.out.trans (by rw[aP9 hc3];simp);clear HT;have kW:V' wr (wr.alloc (M #[I J rk,I J rv,X rg] 86)):=(Aa _ _).alloc z' _;have own2:=aG own kW;have b2:=hB.trans (kW.mono (by have:=hB.size;(try simp at this);omega));go_wp2;go_roundw;case rel=>exact⟨j+1,m,a',c',by omega,by omega,by go_num,rfl,by rw[HQ.out];exact own2,b2⟩
    case measure=>simp[intOf];omega
  .obtain rfl:j=n0:=by omega
   go_wp2;go_ret;exact⟨a',m,c',rfl,by omega,aQ (by rw[Bb (by have:=HL.out;omega)]at own;exact own) (by omega),b0.trans (hB.mono (by omega))⟩
theorem dM8(a0:Option Addr)(n0 c0:Nat)(rs:List Row)(a b v:Int)(w:World)(h:CellsAt w a0 (n0*3) (rcells rs))(hn:n0<=1048576):
  Calls prog 90 #[Z a0 n0 c0,U #[I J 4,I J a,I J b,I J v]] w fun e w'=>∃a' m c',e=R' (Z a' m c')/\m<=2097152/\w'.ownsRow w.heap.size 2 1 (Z a' m c') m (icells (cP 4 a b v rs))/\V' w w':=by
 obtain⟨i0,hi0,hz0,hz1,hz2⟩:=Bz Tryz.info2;have HL:=h.rlen;have oE:=gE (w.alloc (M #[I J 4,I J a,I J b,I J v] 54)) w.heap.size 2 1 (by simp);have b0:V' w (w.alloc (M #[I J 4,I J a,I J b,I J v] 54)):=(Aa _ _).alloc z' _;have kE:V' w ((w.alloc (M #[I J 4,I J a,I J b,I J v] 54)).alloc (M #[] 2)):=b0.alloc b0.size _;have hx:∀W,Below (w.heap.size+1) (w.alloc (M #[I J 4,I J a,I J b,I J v] 54)) W->W.cell? ⟨w.heap.size,0,O⟩=Y (I J 4)/\W.cell? ⟨w.heap.size,1,O⟩=Y (I J a)/\W.cell? ⟨w.heap.size,2,O⟩=Y (I J b)/\W.cell? ⟨w.heap.size,3,O⟩=Y (I J v):=by
  intro W hW;have e:w.heap.size+1=(w.alloc (M #[I J 4,I J a,I J b,I J v] 54)).heap.size:=by simp
  rw[e]at hW;exact⟨aU hW 0,aU hW 1,aU hW 2,aU hW 3⟩
 have HX:=hid hx;clear hx;have oE':((w.alloc (M #[I J 4,I J a,I J b,I J v] 54)).alloc (M #[] 2)).ownsRow (w.heap.size+1) 2 1 (Z (Y ⟨w.heap.size+1,0,O⟩) 0 0) 0 []:=by have:=gE (w.alloc (M #[I J 4,I J a,I J b,I J v] 54)) (w.heap.size+1) 2 1 (by simp);simpa using this
 have kE':Below (w.heap.size+1) (w.alloc (M #[I J 4,I J a,I J b,I J v] 54)) ((w.alloc (M #[I J 4,I J a,I J b,I J v] 54)).alloc (M #[] 2)):=(Aa _ _).alloc (by simp) _;clear oE;go_enter func90,ntmps90
 go_wp2;go_loopw [5,6] (fun q i wr=>∃(j m:Nat) (a':Option Addr) (c':Nat),j<=n0/\m<=2*j/\i=I J j/\q=Z a' m c'/\wr.ownsRow (w.heap.size+1) 2 1 (Z a' m c') m (icells (cP 4 a b v (rs.take j)))/\Below (w.heap.size+1) (w.alloc (M #[I J 4,I J a,I J b,I J v] 54)) wr) (fun _ i _=>n0-(intOf i).toNat)
 case atStart=>exact⟨0,0,_,_,Ad _,by omega,rfl,rfl,oE',kE'⟩
 case round=>
  obtain⟨j,m,a',c',hj,hmj,rfl,rfl,own,hB⟩:=hrel;by_cases hlt:j<n0
  .have HT:=hid (iD 4 a b v (rs:=rs) (j:=j) (by have:=HL.out;omega));obtain⟨bb,off,rfl,q0,q1,q2⟩:=(h.below (b0.trans (hB.mono (by simp)))).row hlt;have hbl:=aD q0;generalize rs.getD j Row.zero=r at*;obtain⟨rk,rv,rg⟩:=r;simp only at q0 q1 q2;obtain⟨y0,y1,y2,y3⟩:=HX.out _ hB;have hby:=aD y0;generalize cP 4 a b v (rs.take j)=zs at*;cases hin:inB rk a b with
   |true=>
    have HQ:Hid (cP 4 a b v (rs.take (j+1))=zs++[rk,rv]):=HT.out.trans (by rw[aQ1 hin]);clear HT;have kW:V' wr (wr.alloc (M #[I J rk,I J rv,X rg] 86)):=(Aa _ _).alloc z' _;have own2:=aG own kW;have bz:=hB.size;have b2:=hB.trans (kW.mono (by have:=hB.size;(try simp at this);omega));have kQ:Below (wr.alloc (M #[I J rk,I J rv,X rg] 86)).heap.size (wr.alloc (M #[I J rk,I J rv,X rg] 86)) ((wr.alloc (M #[I J rk,I J rv,X rg] 86)).alloc (M #[I J rk,I J rv] 2)):=(Aa _ _).alloc z' _;have own3:=aG own2 kQ;have hC3:=aY9 (wr.alloc (M #[I J rk,I J rv,X rg] 86)) rk rv 2;rw[show(wr.alloc (M #[I J rk,I J rv,X rg] 86)).heap.size=wr.heap.size+1 by simp]at hC3;have hb3:(w.heap.size+1)<=((wr.alloc (M #[I J rk,I J rv,X rg] 86)).alloc (M #[I J rk,I J rv] 2)).heap.size:=by simp at bz⊢;omega
    have b3:=b2.trans (kQ.mono (by have:=b2.size;simp at this⊢;omega));have hsum:m+2<=4194304:=by omega
    go_wp2_with(first|(go_at_call 101;refine(cU _ _ _ _).mono ?_;rintro e w'⟨rfl,hww⟩;rw[hin,hww];clear hww w')|(at_builtin;go_must (refine bM underlying27 underlying27 hi0 hz0 hz1 hz2 rfl (by omega) (by omega) (.tmp 42) (.tmp 47) ?_ ?_ (w.heap.size+1) (Z a' m c') m (icells zs) _ 2 2 (icells [rk,rv]) ?_ ?_ own3 hC3 (dC [rk,rv]) hsum hb3 ?_;exact rfl;exact rfl;exact rfl;exact rfl;intro a5 c5 w5 own5 gr5 at5;go_frame)))
    go_roundw;case rel=>rw[<-dW,<-HQ.out]at own5;exact⟨j+1,m+2,a5,c5,by omega,by omega,by go_num,rfl,own5,b3.grown gr5 (by have:=b3.size;simp at this⊢;omega) (fun g hg=>(aH own3 g hg).1)⟩
    case measure=>simp[intOf];omega
   |false=>
    have HQ:Hid (cP 4 a b v (rs.take (j+1))=zs):=HT.out.trans (by rw[yN hin];simp);clear HT;have kW:V' wr (wr.alloc (M #[I J rk,I J rv,X rg] 86)):=(Aa _ _).alloc z' _;have own2:=aG own kW;have b2:=hB.trans (kW.mono (by have:=hB.size;(try simp at this);omega));go_wp2_with(go_at_call 101;refine(cU _ _ _ _).mono ?_;rintro e w'⟨rfl,hww⟩;rw[hin,hww];clear hww w')
    go_roundw;case rel=>exact⟨j+1,m,a',c',by omega,by omega,by go_num,rfl,by rw[HQ.out];exact own2,b2⟩
    case measure=>simp[intOf];omega
  .obtain rfl:j=n0:=by omega
   go_wp2;go_ret;exact⟨a',m,c',rfl,by omega,aQ (by rw[Bb (by have:=HL.out;omega)]at own;exact own) (by omega),b0.trans (hB.mono (by omega))⟩
theorem dN0(a0:Option Addr)(n0 c0:Nat)(rs:List Row)(a b v:Int)(w:World)(h:CellsAt w a0 (n0*3) (rcells rs))(hn:n0<=1048576):
  Calls prog 90 #[Z a0 n0 c0,U #[I J 5,I J a,I J b,I J v]] w fun e w'=>∃a' m c',e=R' (Z a' m c')/\m<=2097152/\w'.ownsRow w.heap.size 2 1 (Z a' m c') m (icells (cP 5 a b v rs))/\V' w w':=by
 obtain⟨i0,hi0,hz0,hz1,hz2⟩:=Bz Tryz.info2;have HL:=h.rlen;have oE:=gE (w.alloc (M #[I J 5,I J a,I J b,I J v] 54)) w.heap.size 2 1 (by simp);have b0:V' w (w.alloc (M #[I J 5,I J a,I J b,I J v] 54)):=(Aa _ _).alloc z' _;have kE:V' w ((w.alloc (M #[I J 5,I J a,I J b,I J v] 54)).alloc (M #[] 2)):=b0.alloc b0.size _;have hx:∀W,Below (w.heap.size+1) (w.alloc (M #[I J 5,I J a,I J b,I J v] 54)) W->W.cell? ⟨w.heap.size,0,O⟩=Y (I J 5)/\W.cell? ⟨w.heap.size,1,O⟩=Y (I J a)/\W.cell? ⟨w.heap.size,2,O⟩=Y (I J b)/\W.cell? ⟨w.heap.size,3,O⟩=Y (I J v):=by
  intro W hW;have e:w.heap.size+1=(w.alloc (M #[I J 5,I J a,I J b,I J v] 54)).heap.size:=by simp
  rw[e]at hW;exact⟨aU hW 0,aU hW 1,aU hW 2,aU hW 3⟩
 have HX:=hid hx;clear hx;have oE':((w.alloc (M #[I J 5,I J a,I J b,I J v] 54)).alloc (M #[] 2)).ownsRow (w.heap.size+1) 2 1 (Z (Y ⟨w.heap.size+1,0,O⟩) 0 0) 0 []:=by have:=gE (w.alloc (M #[I J 5,I J a,I J b,I J v] 54)) (w.heap.size+1) 2 1 (by simp);simpa using this
 have kE':Below (w.heap.size+1) (w.alloc (M #[I J 5,I J a,I J b,I J v] 54)) ((w.alloc (M #[I J 5,I J a,I J b,I J v] 54)).alloc (M #[] 2)):=(Aa _ _).alloc (by simp) _;clear oE;go_enter func90,ntmps90
 go_wp2;go_loopw [5,6] (fun q i wr=>∃(j m:Nat) (a':Option Addr) (c':Nat),j<=n0/\m<=2*j/\i=I J j/\q=Z a' m c'/\wr.ownsRow (w.heap.size+1) 2 1 (Z a' m c') m (icells (cP 5 a b v (rs.take j)))/\Below (w.heap.size+1) (w.alloc (M #[I J 5,I J a,I J b,I J v] 54)) wr) (fun _ i _=>n0-(intOf i).toNat)
 case atStart=>exact⟨0,0,_,_,Ad _,by omega,rfl,rfl,oE',kE'⟩
 case round=>
  obtain⟨j,m,a',c',hj,hmj,rfl,rfl,own,hB⟩:=hrel;by_cases hlt:j<n0
  .have HT:=hid (iD 5 a b v (rs:=rs) (j:=j) (by have:=HL.out;omega));obtain⟨bb,off,rfl,q0,q1,q2⟩:=(h.below (b0.trans (hB.mono (by simp)))).row hlt;have hbl:=aD q0;generalize rs.getD j Row.zero=r at*;obtain⟨rk,rv,rg⟩:=r;simp only at q0 q1 q2;obtain⟨y0,y1,y2,y3⟩:=HX.out _ hB;have hby:=aD y0;generalize cP 5 a b v (rs.take j)=zs at*;by_cases hc2:(rv==v)=A'
   .have HQ:Hid (cP 5 a b v (rs.take (j+1))=zs++[rk]):=HT.out.trans (by rw[aQ3 hc2]);clear HT;have kW:V' wr (wr.alloc (M #[I J rk,I J rv,X rg] 86)):=(Aa _ _).alloc z' _;have own2:=aG own kW;have bz:=hB.size;have b2:=hB.trans (kW.mono (by have:=hB.size;(try simp at this);omega));have kQ:Below (wr.alloc (M #[I J rk,I J rv,X rg] 86)).heap.size (wr.alloc (M #[I J rk,I J rv,X rg] 86)) ((wr.alloc (M #[I J rk,I J rv,X rg] 86)).alloc (M #[I J rk] 2)):=(Aa _ _).alloc z' _;have own3:=aG own2 kQ;have hC3:=jE (wr.alloc (M #[I J rk,I J rv,X rg] 86)) rk 2;rw[show(wr.alloc (M #[I J rk,I J rv,X rg] 86)).heap.size=wr.heap.size+1 by simp]at hC3;have hb3:(w.heap.size+1)<=((wr.alloc (M #[I J rk,I J rv,X rg] 86)).alloc (M #[I J rk] 2)).heap.size:=by simp at bz⊢;omega
    have b3:=b2.trans (kQ.mono (by have:=b2.size;simp at this⊢;omega));have hsum:m+1<=4194304:=by omega
    go_wp2_with(first|(at_builtin;go_must (refine bM underlying27 underlying27 hi0 hz0 hz1 hz2 rfl (by omega) (by omega) (.tmp 56) (.tmp 59) ?_ ?_ (w.heap.size+1) (Z a' m c') m (icells zs) _ 1 1 (icells [rk]) ?_ ?_ own3 hC3 (dC [rk]) hsum hb3 ?_;exact rfl;exact rfl;exact rfl;exact rfl;intro a5 c5 w5 own5 gr5 at5;go_frame)))
    go_roundw;case rel=>rw[<-dW,<-HQ.out]at own5;exact⟨j+1,m+1,a5,c5,by omega,by omega,by go_num,rfl,own5,b3.grown gr5 (by have:=b3.size;simp at this⊢;omega) (fun g hg=>(aH own3 g hg).1)⟩
    case measure=>simp[intOf];omega
   .have hc3:(rv==v)=F':=by simpa using hc2
    clear hc2;have HQ:Hid (cP 5 a b v (rs.take (j+1))=zs):=HT.out.trans (by rw[aQ2 hc3];simp);clear HT;have kW:V' wr (wr.alloc (M #[I J rk,I J rv,X rg] 86)):=(Aa _ _).alloc z' _;have own2:=aG own kW;have b2:=hB.trans (kW.mono (by have:=hB.size;(try simp at this);omega));go_wp2;go_roundw;case rel=>exact⟨j+1,m,a',c',by omega,by omega,by go_num,rfl,by rw[HQ.out];exact own2,b2⟩
    case measure=>simp[intOf];omega
  .obtain rfl:j=n0:=by omega
   go_wp2;go_ret;exact⟨a',m,c',rfl,by omega,aQ (by rw[Bb (by have:=HL.out;omega)]at own;exact own) (by omega),b0.trans (hB.mono (by omega))⟩
theorem dN2(a0:Option Addr)(n0 c0:Nat)(rs:List Row)(k a b v:Int)(w:World)(h:CellsAt w a0 (n0*3) (rcells rs))(hn:n0<=1048576)(hk:(k==1)=F'/\(k==4)=F'/\(k==5)=F'):
  Calls prog 90 #[Z a0 n0 c0,U #[I J k,I J a,I J b,I J v]] w fun e w'=>∃a' m c',e=R' (Z a' m c')/\m<=2097152/\w'.ownsRow w.heap.size 2 1 (Z a' m c') m (icells (cP k a b v rs))/\V' w w':=by
 obtain⟨i0,hi0,hz0,hz1,hz2⟩:=Bz Tryz.info2;obtain⟨k1,k4,k5⟩:=hk;have HL:=h.rlen;have oE:=gE (w.alloc (M #[I J k,I J a,I J b,I J v] 54)) w.heap.size 2 1 (by simp);have b0:V' w (w.alloc (M #[I J k,I J a,I J b,I J v] 54)):=(Aa _ _).alloc z' _;have kE:V' w ((w.alloc (M #[I J k,I J a,I J b,I J v] 54)).alloc (M #[] 2)):=b0.alloc b0.size _;have hx:∀W,Below (w.heap.size+1) (w.alloc (M #[I J k,I J a,I J b,I J v] 54)) W->W.cell? ⟨w.heap.size,0,O⟩=Y (I J k)/\W.cell? ⟨w.heap.size,1,O⟩=Y (I J a)/\W.cell? ⟨w.heap.size,2,O⟩=Y (I J b)/\W.cell? ⟨w.heap.size,3,O⟩=Y (I J v):=by
  intro W hW;have e:w.heap.size+1=(w.alloc (M #[I J k,I J a,I J b,I J v] 54)).heap.size:=by simp
  rw[e]at hW;exact⟨aU hW 0,aU hW 1,aU hW 2,aU hW 3⟩
 have HX:=hid hx;clear hx;have oE':((w.alloc (M #[I J k,I J a,I J b,I J v] 54)).alloc (M #[] 2)).ownsRow (w.heap.size+1) 2 1 (Z (Y ⟨w.heap.size+1,0,O⟩) 0 0) 0 []:=by have:=gE (w.alloc (M #[I J k,I J a,I J b,I J v] 54)) (w.heap.size+1) 2 1 (by simp);simpa using this
 have kE':Below (w.heap.size+1) (w.alloc (M #[I J k,I J a,I J b,I J v] 54)) ((w.alloc (M #[I J k,I J a,I J b,I J v] 54)).alloc (M #[] 2)):=(Aa _ _).alloc (by simp) _;clear oE;go_enter func90,ntmps90
 go_wp2;go_loopw [5,6] (fun q i wr=>∃(j m:Nat) (a':Option Addr) (c':Nat),j<=n0/\m<=2*j/\i=I J j/\q=Z a' m c'/\wr.ownsRow (w.heap.size+1) 2 1 (Z a' m c') m (icells (cP k a b v (rs.take j)))/\Below (w.heap.size+1) (w.alloc (M #[I J k,I J a,I J b,I J v] 54)) wr) (fun _ i _=>n0-(intOf i).toNat)
 case atStart=>exact⟨0,0,_,_,Ad _,by omega,rfl,rfl,oE',kE'⟩
 case round=>
  obtain⟨j,m,a',c',hj,hmj,rfl,rfl,own,hB⟩:=hrel;by_cases hlt:j<n0
  .have HT:=hid (iD k a b v (rs:=rs) (j:=j) (by have:=HL.out;omega));obtain⟨bb,off,rfl,q0,q1,q2⟩:=(h.below (b0.trans (hB.mono (by simp)))).row hlt;have hbl:=aD q0;generalize rs.getD j Row.zero=r at*;obtain⟨rk,rv,rg⟩:=r;simp only at q0 q1 q2;obtain⟨y0,y1,y2,y3⟩:=HX.out _ hB;have hby:=aD y0;generalize cP k a b v (rs.take j)=zs at*;have HQ:Hid (cP k a b v (rs.take (j+1))=zs):=HT.out.trans (by rw[tX ⟨k1,k4,k5⟩];simp);clear HT;have kW:V' wr (wr.alloc (M #[I J rk,I J rv,X rg] 86)):=(Aa _ _).alloc z' _;have own2:=aG own kW;have b2:=hB.trans (kW.mono (by have:=hB.size;(try simp at this);omega));go_wp2;go_roundw;case rel=>exact⟨j+1,m,a',c',by omega,by omega,by go_num,rfl,by rw[HQ.out];exact own2,b2⟩
   case measure=>simp[intOf];omega
  .obtain rfl:j=n0:=by omega
   go_wp2;go_ret;exact⟨a',m,c',rfl,by omega,aQ (by rw[Bb (by have:=HL.out;omega)]at own;exact own) (by omega),b0.trans (hB.mono (by omega))⟩
theorem cZ6(p:Nat)(S:Sl)(k a b v:Int)(w:World)(h:Slt w p S):
  Calls prog 49 #[.pointer (Y ⟨p,0,O⟩),U #[I J k,I J a,I J b,I J v]] w fun e w'=>∃a' m c',e=R' (Z a' m c')/\m<=2097152/\w'.ownsRow w.heap.size 2 1 (Z a' m c') m (icells (cP k a b v (Ch.rowsS S)))/\V' w w':=by
 rcases xT k with rfl|rfl|rfl|hk
 .exact dM5 p S a b v w h
 .exact dM7 p S a b v w h
 .exact dM9 p S a b v w h
 .exact dN1 p S k a b v w h hk
theorem bY1(a0:Option Addr)(n0 c0:Nat)(rs:List Row)(k a b v:Int)(w:World)(h:CellsAt w a0 (n0*3) (rcells rs))(hn:n0<=1048576):
  Calls prog 90 #[Z a0 n0 c0,U #[I J k,I J a,I J b,I J v]] w fun e w'=>∃a' m c',e=R' (Z a' m c')/\m<=2097152/\w'.ownsRow w.heap.size 2 1 (Z a' m c') m (icells (cP k a b v rs))/\V' w w':=by
 rcases xT k with rfl|rfl|rfl|hk
 .exact dM6 a0 n0 c0 rs a b v w h hn
 .exact dM8 a0 n0 c0 rs a b v w h hn
 .exact dN0 a0 n0 c0 rs a b v w h hn
 .exact dN2 a0 n0 c0 rs k a b v w h hn hk
end Go.Proofs.YtpbbokalojdooaaGreat
