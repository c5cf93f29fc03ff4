import Derived.Test.YtpbbokalojdooaaGreatWal
import Derived.Test.YtpbbokalojdooaaGreatWam
namespace Go.Proofs.YtpbbokalojdooaaGreat
open Go.RowKit Ch Go.Proofs.Tryz
set_option linter.unusedSimpArgs false
set_option linter.unusedVariables false
set_option maxRecDepth 20000
set_option maxHeartbeats 8000000
open Value renaming int->I,slice->Z,bool->X,agg->U
open IntKind renaming i64->J
open Option renaming none->O,some->Y
open Obj renaming cells->M
open Ending renaming returned->R'
open Bool renaming true->A',false->F'
variable {e:Eng} {c:Int} {k:Nat}
theorem dL2(x y:Int)(w:World):Calls prog 220 #[I J x,I J y] w fun e w'=>e=R' (I J (min x y))/\w'=w:=by
 by_cases h:x<y
 .rw[show min x y=x by omega];go_enter func220,ntmps220
  go_wp2;go_ret;exact⟨rfl,rfl⟩
 .rw[show min x y=y by omega];go_enter func220,ntmps220
  go_wp2;go_ret;exact⟨rfl,rfl⟩
theorem cG5(a:Option Addr)(n cap:Nat)(ls:List (List Row))(w:World)(h:LvAt w a n ls)(hs:aW ls<=1048576)(hg:∀k,k<n->(ls.getD k []).length≠0):
  Calls prog 214 #[Z a n cap] w fun e w'=>∃a' m c',e=R' (Z a' m c')/\OwnLv w' w.heap.size (Z a' m c') m (aE6 ls.flatten)/\V' w w':=by
 have HL:=h.len;have o0:=pI w w.heap.size z';have O0:OwnLv (w.alloc (M #[] 200)) w.heap.size (Z (Y ⟨w.heap.size,0,O⟩) 0 0) 0 []:=⟨rfl,[],o0,fun i hi=>absurd hi (by omega),fun i j x y g _ hx=>by simp at hx,fun i x g hx=>by simp at hx⟩
 clear o0;have b0:V' w (w.alloc (M #[] 200)):=(Aa _ _).alloc z' _;have hfl:=oJ hs ls.length;rw[Be]at hfl;have RI:=fun W hW=>aP6 a n cap ls W hW hs hg ls.flatten.length rfl;generalize ls.flatten=F at*;generalize hm:F.length=m at*;obtain⟨P,hP⟩:∃P,P=(m+3) / 4:=⟨_,rfl⟩
 have HP:=hid (cI7 F P (by rw[hm];exact hP));have hPm:P<=1048576:=by omega
 have hPd:∀k,k<P->k*4<m:=by intro k hk;omega
 have hPe:P*4<m+4/\m<=P*4:=by omega
 clear hP hg;go_enter func214,ntmps214
 go_wp2_with fail
 refine(RI _ (h.below b0)).mono ?_;rintro e w2⟨a2,c2,rfl,own,b2⟩;have O2:=O0.below b2;have bE:=b0.trans (b2.mono b0.size);have hlo:∀g,(Z a2 m c2).ownBlock=Y g->w.heap.size<g:=by intro g hg;have:=aH own g hg;simp at this;omega
 have hhi:∀g,(Z a2 m c2).ownBlock=Y g->g<w2.heap.size:=by intro g hg;exact(aH own g hg).2
 have hz2:=b2.size;simp at hz2;clear O0 b2 b0 RI;go_wp2;go_loopw [3,5] (fun q i wr=>∃(k:Nat) (a':Option Addr) (c':Nat),k<=P/\i=I J ((k:Int)*4)/\q=Z a' k c'/\OwnLv wr w.heap.size (Z a' k c') k ((List.range k).map (gR F))/\(∀g,(Z a' k c').ownBlock=Y g->g=w.heap.size\/w2.heap.size<=g)/\wr.ownsRow (w.heap.size+1) 86 3 (Z a2 m c2) m (rcells F)/\w2.heap.size<=wr.heap.size/\V' w wr) (fun _ i _=>P-(intOf i / 4).toNat)
 case atStart=>exact⟨0,_,_,Ad _,rfl,rfl,O2,fun g hg=>by simp[Value.ownBlock]at hg;omega,by simpa using own,z',bE⟩
 case round=>
  clear O2 own;obtain⟨k,a',c',hk,rfl,rfl,oL,hat,own,hsz,hB⟩:=hrel;by_cases hlt:k<P
  .have hkm:=hPd k hlt;have hown:=own;rcases own.2 with⟨_,h00⟩|⟨g,cp,cur,hv,_⟩
   .omega
   simp only[Bg,Es]at hv;obtain⟨rfl,rfl⟩:=hv;have hcap:=aZ1 hown;have hcells:=aO hown;have hlo:=hlo g rfl;have hhi:=hhi g rfl;obtain⟨t,ht⟩:∃t:Nat,t=min (k*4+4) m:=⟨_,rfl⟩
   have hmin:min (m:Int) ((k:Int)*4+4)=(t:Int):=by omega
   have HPi:=hid (bR9 F k t (by rw[hm];exact ht));have HSn:=hid (aO2 F k);have ht1:k*4<t:=by omega
   have ht2:t<=m:=by omega
   clear ht;obtain⟨vs,hV⟩:=oL.told;have hoV:=hV.2.1;have hsum:k+1<=2097152:=by omega
   have hk4:((k*4:Nat):Int)=(k:Int)*4:=by omega
   have h1:t<=c2:=by omega
   have h2:k*4<=t:=by omega
   have h3:¬c2=k*4:=by omega
   have h4:(k:Int)*4<(m:Int):=by omega
   have h5:(k:Int)*4<=(t:Int):=by omega
   have h6:((k:Int)*4).toNat=k*4:=by omega
   have hcR:=hcells.cutR (k:=k*4) (by omega);rw[Al]at hcR;have hcc:=hcR.cutL (k:=t-k*4) (by omega);rw[HPi.out]at hcc;generalize gR F k=pc at*;have MI:=fun W=>dL2 (m:Int) ((k:Int)*4+4) W;rw[hmin]at MI;go_wp2_with fail
   refine(MI _).mono ?_;rintro e w4⟨rfl,rfl⟩;clear MI hmin;have e0:=kH w4 w4.heap.size z';have bR:V' w4 (w4.alloc (M #[] 86)):=(Aa _ _).alloc z' _;have hcc4:=hcc.below bR;have hsd:0+(t-k*4)<=2097152:=by omega
   have hfo:∀o,V' w4 (w4.alloc o):=fun o=>(Aa _ _).alloc z' _;go_wp2_with(first|(at_builtin;refine fC (.tmp 22) (.tmp 26) w4.heap.size (Z (Y ⟨w4.heap.size,0,O⟩) 0 0) 0 [] (t-k*4) pc hsd ?_ ?_ ?_ ?_ ?_ ?_ ?_;exact rfl;exact rfl;exact rfl;exact⟨_,_,rfl,hcc4⟩;exact e0;(focus(simp;done));intro a5 c5 w5 own5 b5;have b5':=bR.trans b5;have bA:∀o,V' w5 (w5.alloc o):=(fun o=>(Aa _ _).alloc z' _);rw[Al,List.nil_append]at own5;rw[Al];have hz5:=b5'.size)|(at_builtin;go_must (refine nL (.tmp 21) (.tmp 29) w.heap.size (Z a' k c') k vs 1 [Z a5 (t-k*4) c5] hsum (by simp[Value.oneCell']) ?_ ?_ ?_ ?_ ?_ ?_ ?_ (by omega);exact rfl;exact rfl;exact rfl;exact⟨_,_,rfl,vE rfl⟩;exact aG (aG hoV b5') (bA _);(focus(have:=hB.size;simp;omega));intro a6 c6 w6 own6 gr6 at6)))
   have HLn:=bG1 own5;have hB5:=hB.trans (b5'.mono hB.size);have hz6:=gr6.size;simp at hz6;go_roundw;case rel=>
    refine⟨k+1,a6,c6,by omega,by go_num,rfl,?_,?_,?_,by omega,?_⟩
    .rw[HSn.out];refine OwnLv.snoc hV b5' ?_ hB.size rfl own6 gr6 at6;have:=HLn.out;rw[<-this];exact own5
    .intro q hq;rcases at6 q hq with h7|h7
     .exact hat q h7
     .simp at h7;right;omega
    .refine aN (aG (aG hown b5') (bA _)) gr6 fun q hq e=>?_;simp[Value.ownBlock]at hq;subst hq;have:=hat _ e;omega
    .refine(hB5.alloc hB5.size _).grown gr6 (by have:=hB5.size;simp;omega) ?_;intro j hj;exact(aH hoV j hj).1
   case measure=>simp[intOf];omega
  .obtain rfl:k=P:=by omega
   have h4:¬(k:Int)*4<(m:Int):=by omega
   go_wp2;go_ret;rw[HP.out]at oL;exact⟨a',k,c',rfl,oL,hB⟩
structure Ch.TxFine(lk:List Ch.Lock)(k:Nat)(t:Ch.Tx):Prop where
 un:cY t.un=0
 id:t.id=(k:Int)+1
 op:t.st=2->aF t.wk t.wa t.wb t.wv=0
 wt:t.st≠2->eH lk t.id<0
def TxnC(e:Eng)(k:Nat)(r:Ending):Prop:=∃c,r=R' (I J c)/\(c=0->TxFine e.lk k (aS e.tx k))
theorem TxnC.bad(h:c≠0):TxnC e k (R' (I J c)):=⟨c,rfl,fun h0=>absurd h0 h⟩
theorem TxnC.ok(h:TxFine e.lk k (aS e.tx k)):TxnC e k (R' (I J c)):=⟨c,rfl,fun _=>h⟩
theorem cU4(b:Nat)(s:EgS)(e:Eng)(k:Nat)(w:World)(h:EgP w b s e)(hk:k<s.tn):
  Calls prog 144 #[.pointer (Y ⟨b,0,O⟩),I J k] w fun r w'=>TxnC e k r/\V' w w':=by
 have hn:=h.2.n4;obtain⟨x0,x1,x2,x3,x4,x5,x6,x7,x8,x9⟩:=h.all;have hbl:=h.lt;obtain⟨g,off,au,nu,cu,hta,t0,t1,t2,t3,t4,t5,t6,t7,hU,hnu⟩:=h.2.tx.txn hk;have HU:=hU.bflen;rw[hta]at x3;have hg:=aD t0;have hLk:=h.2.lk;have IBf:=fun W hW=>aH3 au nu cu (aS e.tx k).un W hW hnu;obtain⟨bc,HBc⟩:∃bc,Hid (cY (aS e.tx k).un=bc):=⟨_,rfl⟩
 rw[HBc.out]at IBf;have hU':=fun W (hW:V' w W)=>hU.below hW;obtain⟨tt,HTt⟩:∃tt,Hid (aS e.tx k=tt):=⟨_,rfl⟩
 rw[HTt.out]at t0 t1 t2 t4 t5 t6 t7 hU HBc;simp only[HTt.out]at IBf;simp only[HTt.out]at hU';obtain⟨tid,tsy,tst,tun,twk,twa,twb,twv⟩:=tt;simp only at t0 t1 t2 t4 t5 t6 t7 hU hU' HBc
 (try simp only at IBf)
 have hwk:IntKind.i64.wrap ((k:Int)+1)=(k:Int)+1:=Br _ ⟨by omega,by omega⟩;clear x0 x1 x4 x5 x6 x7 x8 x9 t1;go_enter func144,ntmps144
 cases hid:(tid !=(k:Int)+1);rotate_left
 .go_wp2;go_ret;exact⟨TxnC.bad (by decide),Aa _ _⟩
 .cases hin:inB tst 1 4
  .go_wp2_with fail
   refine(cU tst 1 4 _).mono ?_;rintro r9 w9⟨rfl,hw9⟩;obtain rfl:=hw9.symm;rw[hin];go_wp2;go_ret;exact⟨TxnC.bad (by decide),Aa _ _⟩
  .go_wp2_with fail
   refine(cU tst 1 4 _).mono ?_;rintro r9 w9⟨rfl,hw9⟩;obtain rfl:=hw9.symm;rw[hin];go_wp2_with fail
   refine(IBf _ hU).mono ?_;rintro r9 w1⟨rfl,hB⟩;have t0:=keep_cell hB t0;have t2:=keep_cell hB t2;have t3:=keep_cell hB t3;have t4:=keep_cell hB t4;have t5:=keep_cell hB t5;have t6:=keep_cell hB t6;have t7:=keep_cell hB t7;have x2:=keep_cell hB x2;have hLk:=hLk.below hB;have hg:=aD t0;have hbl:=aD x2;clear hU hU' IBf x3;cases hbc:(bc !=0);rotate_left
   .go_wp2;go_ret;exact⟨TxnC.bad (by simpa using hbc),hB⟩
   .have HBf:Hid (cY tun=0):=by show _=_;rw[HBc.out];simpa using hbc
    clear HBc;obtain⟨hv,HHv⟩:∃hv,Hid (gQ e.lk tid e.lk.length=hv):=⟨_,rfl⟩
    obtain⟨B0,hB0⟩:∃B0,w1.heap.size=B0:=⟨_,rfl⟩
    cases h3:decide (3<=tst)
    .go_wp2_with fail
     have kA:V' w1 (w1.alloc (M #[I J 0,I J 0,I J 0,I J 0] 54)):=(Aa _ _).alloc z' _;have hz:(w1.alloc (M #[I J 0,I J 0,I J 0,I J 0] 54)).heap[w1.heap.size]? =Y (M #[I J 0,I J 0,I J 0,I J 0] 54 (0,0)):=aP rfl;have z0:_=Y (I J 0):=Ai _ _ 0 _ _ _ hz;have z1:_=Y (I J 0):=Ai _ _ 1 _ _ _ hz;have z2:_=Y (I J 0):=Ai _ _ 2 _ _ _ hz;have z3:_=Y (I J 0):=Ai _ _ 3 _ _ _ hz;have t0:=keep_cell kA t0;have t2:=keep_cell kA t2;have t3:=keep_cell kA t3;have t4:=keep_cell kA t4;have t5:=keep_cell kA t5;have t6:=keep_cell kA t6;have t7:=keep_cell kA t7;have x2:=keep_cell kA x2;have hLk:=hLk.below kA;have hB:=hB.trans (kA.mono hB.size);clear kA hz;rw[hB0]at z0 z1 z2 z3;generalize w1.alloc (M #[I J 0,I J 0,I J 0,I J 0] 54)=w2 at*;refine R0 (fun W'=>W'.cell? ⟨g,off+k*8,O⟩=Y (I J tid)/\W'.cell? ⟨g,off+k*8+2,O⟩=Y (I J tst)/\W'.cell? ⟨g,off+k*8+3,O⟩=Y (Z au nu cu)/\W'.cell? ⟨g,off+k*8+4,O⟩=Y (I J twk)/\W'.cell? ⟨g,off+k*8+5,O⟩=Y (I J twa)/\W'.cell? ⟨g,off+k*8+6,O⟩=Y (I J twb)/\W'.cell? ⟨g,off+k*8+7,O⟩=Y (I J twv)/\W'.cell? ⟨B0,0,O⟩=Y (I J 0)/\W'.cell? ⟨B0,1,O⟩=Y (I J 0)/\W'.cell? ⟨B0,2,O⟩=Y (I J 0)/\W'.cell? ⟨B0,3,O⟩=Y (I J 0)/\W'.cell? ⟨b,2,O⟩=Y (Z s.ka s.kn s.kc)/\LkAt W' s.ka s.kn e.lk/\V' w W') (⟨t0,t2,t3,t4,t5,t6,t7,z0,z1,z2,z3,x2,hLk.below ((Aa _ _).drew),hB.drew⟩) (fun hH=>?_);refine R5 0 1 2 3 4 ?_;refine R8 5 (h:=R9 6 (h:=R9 7 (h:=R9 8 (h:=R9 9 (h:=J3 ?_)))));refine R9 10 (h:=R9 11 (h:=R9 12 (h:=R9 13 (h:=R9 14 (h:=J3 ?_)))));refine R9 15 (h:=R9 16 (h:=R9 17 (h:=R9 18 (h:=R9 19 (h:=J3 ?_)))));refine R9 20 (h:=R9 21 (h:=R9 22 (h:=R8 23 (h:=J3 ?_))));refine R7 ?_;obtain⟨t0,t2,t3,t4,t5,t6,t7,z0,z1,z2,z3,x2,hLk,hB⟩:=hH;cases hs2:(tst==2)
     .obtain⟨nb,HNe⟩:∃nb,Hid ((!(twk==0&&twa==0&&twb==0&&twv==0))=nb):=⟨_,rfl⟩
      have hne:∀W,(binOp .neq 54 (U #[I J twk,I J twa,I J twb,I J twv]) (U #[I J 0,I J 0,I J 0,I J 0])).run prog W= .ok (X nb) W:=fun W=>by rw[gD,HNe.out]
      cases nb
      .obtain⟨wt,HWt⟩:∃wt,Hid (eH e.lk tid=wt):=⟨_,rfl⟩
       cases hwt:decide (0<=wt)
       .go_wp2_with fail
        refine R0 (fun W'=>W'.cell? ⟨g,off+k*8,O⟩=Y (I J tid)/\W'.cell? ⟨g,off+k*8+2,O⟩=Y (I J tst)/\W'.cell? ⟨g,off+k*8+3,O⟩=Y (Z au nu cu)/\W'.cell? ⟨g,off+k*8+4,O⟩=Y (I J twk)/\W'.cell? ⟨g,off+k*8+5,O⟩=Y (I J twa)/\W'.cell? ⟨g,off+k*8+6,O⟩=Y (I J twb)/\W'.cell? ⟨g,off+k*8+7,O⟩=Y (I J twv)/\W'.cell? ⟨B0,0,O⟩=Y (I J 0)/\W'.cell? ⟨B0,1,O⟩=Y (I J 0)/\W'.cell? ⟨B0,2,O⟩=Y (I J 0)/\W'.cell? ⟨B0,3,O⟩=Y (I J 0)/\W'.cell? ⟨b,2,O⟩=Y (Z s.ka s.kn s.kc)/\LkAt W' s.ka s.kn e.lk/\V' w W') (⟨t0,t2,t3,t4,t5,t6,t7,z0,z1,z2,z3,x2,hLk.below ((Aa _ _).drew),hB.drew⟩) (fun hH=>?_);refine R5 0 1 2 3 4 ?_;refine R5 5 6 7 8 9 ?_;refine R5 10 11 12 13 14 ?_;refine R6 15 (fun K hK=>?_);go_simp;refine(mM s.ka s.kn s.kc tid e.lk _ hH.2.2.2.2.2.2.2.2.2.2.2.2.1 h.2.n3).mono ?_;rintro r9 w9⟨rfl,hw9⟩;obtain rfl:=hw9.symm;rw[HWt.out];refine hK.out _ _ ?_ (fun hH=>?_)
        .exact hH
        clear hK K;refine R2 16 17 ?_;refine R7 ?_;obtain⟨t0,t2,t3,t4,t5,t6,t7,z0,z1,z2,z3,x2,hLk,hB⟩:=hH;go_wp2;go_ret;exact⟨TxnC.ok (by rw[HTt.out];exact⟨HBf.out,by simpa using hid,fun h2=>absurd h2 (by simpa using hs2),fun _=>by show eH e.lk tid<0;rw[HWt.out];simpa using hwt⟩),hB⟩
       .go_wp2_with fail
        refine R0 (fun W'=>W'.cell? ⟨g,off+k*8,O⟩=Y (I J tid)/\W'.cell? ⟨g,off+k*8+2,O⟩=Y (I J tst)/\W'.cell? ⟨g,off+k*8+3,O⟩=Y (Z au nu cu)/\W'.cell? ⟨g,off+k*8+4,O⟩=Y (I J twk)/\W'.cell? ⟨g,off+k*8+5,O⟩=Y (I J twa)/\W'.cell? ⟨g,off+k*8+6,O⟩=Y (I J twb)/\W'.cell? ⟨g,off+k*8+7,O⟩=Y (I J twv)/\W'.cell? ⟨B0,0,O⟩=Y (I J 0)/\W'.cell? ⟨B0,1,O⟩=Y (I J 0)/\W'.cell? ⟨B0,2,O⟩=Y (I J 0)/\W'.cell? ⟨B0,3,O⟩=Y (I J 0)/\W'.cell? ⟨b,2,O⟩=Y (Z s.ka s.kn s.kc)/\LkAt W' s.ka s.kn e.lk/\V' w W') (⟨t0,t2,t3,t4,t5,t6,t7,z0,z1,z2,z3,x2,hLk.below ((Aa _ _).drew),hB.drew⟩) (fun hH=>?_);refine R5 0 1 2 3 4 ?_;refine R5 5 6 7 8 9 ?_;refine R5 10 11 12 13 14 ?_;refine R6 15 (fun K hK=>?_);go_simp;refine(mM s.ka s.kn s.kc tid e.lk _ hH.2.2.2.2.2.2.2.2.2.2.2.2.1 h.2.n3).mono ?_;rintro r9 w9⟨rfl,hw9⟩;obtain rfl:=hw9.symm;rw[HWt.out];refine hK.out _ _ ?_ (fun hH=>?_)
        .exact hH
        clear hK K;refine R2 16 17 ?_;refine R7 ?_;obtain⟨t0,t2,t3,t4,t5,t6,t7,z0,z1,z2,z3,x2,hLk,hB⟩:=hH;go_wp2;go_ret;exact⟨TxnC.bad (by decide),hB⟩
      .go_wp2_with fail
       refine R0 (fun W'=>W'.cell? ⟨g,off+k*8,O⟩=Y (I J tid)/\W'.cell? ⟨g,off+k*8+2,O⟩=Y (I J tst)/\W'.cell? ⟨g,off+k*8+3,O⟩=Y (Z au nu cu)/\W'.cell? ⟨g,off+k*8+4,O⟩=Y (I J twk)/\W'.cell? ⟨g,off+k*8+5,O⟩=Y (I J twa)/\W'.cell? ⟨g,off+k*8+6,O⟩=Y (I J twb)/\W'.cell? ⟨g,off+k*8+7,O⟩=Y (I J twv)/\W'.cell? ⟨B0,0,O⟩=Y (I J 0)/\W'.cell? ⟨B0,1,O⟩=Y (I J 0)/\W'.cell? ⟨B0,2,O⟩=Y (I J 0)/\W'.cell? ⟨B0,3,O⟩=Y (I J 0)/\W'.cell? ⟨b,2,O⟩=Y (Z s.ka s.kn s.kc)/\LkAt W' s.ka s.kn e.lk/\V' w W') (⟨t0,t2,t3,t4,t5,t6,t7,z0,z1,z2,z3,x2,hLk.below ((Aa _ _).drew),hB.drew⟩) (fun hH=>?_);refine R5 0 1 2 3 4 ?_;refine R8 5 (h:=R8 6 (h:=R9 7 (h:=R9 8 (h:=R9 9 (h:=J3 ?_)))));refine R9 10 (h:=R9 11 (h:=R9 12 (h:=R9 13 (h:=R9 14 (h:=J3 ?_)))));refine R9 15 (h:=R9 16 (h:=R8 17 (h:=J3 ?_)));refine R7 ?_;obtain⟨t0,t2,t3,t4,t5,t6,t7,z0,z1,z2,z3,x2,hLk,hB⟩:=hH;go_wp2;go_ret;exact⟨TxnC.bad (by decide),hB⟩
     .go_wp2_with fail
      refine(oH twk twa twb twv _).mono ?_;rintro r9 w9⟨rfl,hw9⟩;have hB:=hB.trans (hw9.mono hB.size);obtain⟨oc,HOc⟩:∃oc,Hid (aF twk twa twb twv=oc):=⟨_,rfl⟩
      rw[HOc.out];cases hoc:(oc !=0)
      .go_wp2;go_ret;exact⟨TxnC.ok (by rw[HTt.out];exact⟨HBf.out,by simpa using hid,fun _=>by show aF twk twa twb twv=0;rw[HOc.out];simpa using hoc,fun h2=>absurd (by simpa using hs2) h2⟩),hB⟩
      .go_wp2;go_ret;exact⟨TxnC.bad (by decide),hB⟩
    .cases hv
     .by_cases h0:nu=0
      .have hp:¬0<nu:=by omega
       have hp':¬(0:Int)<(nu:Int):=by omega
       clear h0;go_wp2_with fail
       have kA:V' w1 (w1.alloc (M #[I J 0,I J 0,I J 0,I J 0] 54)):=(Aa _ _).alloc z' _;have hz:(w1.alloc (M #[I J 0,I J 0,I J 0,I J 0] 54)).heap[w1.heap.size]? =Y (M #[I J 0,I J 0,I J 0,I J 0] 54 (0,0)):=aP rfl;have z0:_=Y (I J 0):=Ai _ _ 0 _ _ _ hz;have z1:_=Y (I J 0):=Ai _ _ 1 _ _ _ hz;have z2:_=Y (I J 0):=Ai _ _ 2 _ _ _ hz;have z3:_=Y (I J 0):=Ai _ _ 3 _ _ _ hz;have t0:=keep_cell kA t0;have t2:=keep_cell kA t2;have t3:=keep_cell kA t3;have t4:=keep_cell kA t4;have t5:=keep_cell kA t5;have t6:=keep_cell kA t6;have t7:=keep_cell kA t7;have x2:=keep_cell kA x2;have hLk:=hLk.below kA;have hB:=hB.trans (kA.mono hB.size);clear kA hz;rw[hB0]at z0 z1 z2 z3;generalize w1.alloc (M #[I J 0,I J 0,I J 0,I J 0] 54)=w2 at*;refine R0 (fun W'=>W'.cell? ⟨g,off+k*8,O⟩=Y (I J tid)/\W'.cell? ⟨g,off+k*8+2,O⟩=Y (I J tst)/\W'.cell? ⟨g,off+k*8+3,O⟩=Y (Z au nu cu)/\W'.cell? ⟨g,off+k*8+4,O⟩=Y (I J twk)/\W'.cell? ⟨g,off+k*8+5,O⟩=Y (I J twa)/\W'.cell? ⟨g,off+k*8+6,O⟩=Y (I J twb)/\W'.cell? ⟨g,off+k*8+7,O⟩=Y (I J twv)/\W'.cell? ⟨B0,0,O⟩=Y (I J 0)/\W'.cell? ⟨B0,1,O⟩=Y (I J 0)/\W'.cell? ⟨B0,2,O⟩=Y (I J 0)/\W'.cell? ⟨B0,3,O⟩=Y (I J 0)/\W'.cell? ⟨b,2,O⟩=Y (Z s.ka s.kn s.kc)/\LkAt W' s.ka s.kn e.lk/\V' w W') (⟨t0,t2,t3,t4,t5,t6,t7,z0,z1,z2,z3,x2,hLk.below ((Aa _ _).drew),hB.drew⟩) (fun hH=>?_);refine R5 0 1 2 3 4 ?_;refine R5 5 6 7 8 9 ?_;refine R4 10 11 12 13 ?_;refine R6 14 (fun K hK=>?_);go_simp;refine(xZ s.ka s.kn s.kc tid e.lk _ hH.2.2.2.2.2.2.2.2.2.2.2.2.1 h.2.n3).mono ?_;rintro r9 w9⟨rfl,hw9⟩;rw[HHv.out];refine hK.out _ _ ?_ (fun hH=>?_)
       .obtain⟨t0,t2,t3,t4,t5,t6,t7,z0,z1,z2,z3,x2,hLk,hB⟩:=hH;exact⟨keep_cell hw9 t0,keep_cell hw9 t2,keep_cell hw9 t3,keep_cell hw9 t4,keep_cell hw9 t5,keep_cell hw9 t6,keep_cell hw9 t7,keep_cell hw9 z0,keep_cell hw9 z1,keep_cell hw9 z2,keep_cell hw9 z3,keep_cell hw9 x2,hLk.below hw9,hB.trans (hw9.mono hB.size)⟩
       clear hK K;refine R5 15 16 17 18 19 ?_;refine R4 20 21 22 23 ?_;refine R7 ?_;obtain⟨t0,t2,t3,t4,t5,t6,t7,z0,z1,z2,z3,x2,hLk,hB⟩:=hH;cases hs2:(tst==2)
       .obtain⟨nb,HNe⟩:∃nb,Hid ((!(twk==0&&twa==0&&twb==0&&twv==0))=nb):=⟨_,rfl⟩
        have hne:∀W,(binOp .neq 54 (U #[I J twk,I J twa,I J twb,I J twv]) (U #[I J 0,I J 0,I J 0,I J 0])).run prog W= .ok (X nb) W:=fun W=>by rw[gD,HNe.out]
        cases nb
        .obtain⟨wt,HWt⟩:∃wt,Hid (eH e.lk tid=wt):=⟨_,rfl⟩
         cases hwt:decide (0<=wt)
         .go_wp2_with fail
          refine R0 (fun W'=>W'.cell? ⟨g,off+k*8,O⟩=Y (I J tid)/\W'.cell? ⟨g,off+k*8+2,O⟩=Y (I J tst)/\W'.cell? ⟨g,off+k*8+3,O⟩=Y (Z au nu cu)/\W'.cell? ⟨g,off+k*8+4,O⟩=Y (I J twk)/\W'.cell? ⟨g,off+k*8+5,O⟩=Y (I J twa)/\W'.cell? ⟨g,off+k*8+6,O⟩=Y (I J twb)/\W'.cell? ⟨g,off+k*8+7,O⟩=Y (I J twv)/\W'.cell? ⟨B0,0,O⟩=Y (I J 0)/\W'.cell? ⟨B0,1,O⟩=Y (I J 0)/\W'.cell? ⟨B0,2,O⟩=Y (I J 0)/\W'.cell? ⟨B0,3,O⟩=Y (I J 0)/\W'.cell? ⟨b,2,O⟩=Y (Z s.ka s.kn s.kc)/\LkAt W' s.ka s.kn e.lk/\V' w W') (⟨t0,t2,t3,t4,t5,t6,t7,z0,z1,z2,z3,x2,hLk.below ((Aa _ _).drew),hB.drew⟩) (fun hH=>?_);refine R5 0 1 2 3 4 ?_;refine R5 5 6 7 8 9 ?_;refine R5 10 11 12 13 14 ?_;refine R6 15 (fun K hK=>?_);go_simp;refine(mM s.ka s.kn s.kc tid e.lk _ hH.2.2.2.2.2.2.2.2.2.2.2.2.1 h.2.n3).mono ?_;rintro r9 w9⟨rfl,hw9⟩;obtain rfl:=hw9.symm;rw[HWt.out];refine hK.out _ _ ?_ (fun hH=>?_)
          .exact hH
          clear hK K;refine R2 16 17 ?_;refine R7 ?_;obtain⟨t0,t2,t3,t4,t5,t6,t7,z0,z1,z2,z3,x2,hLk,hB⟩:=hH;go_wp2;go_ret;exact⟨TxnC.ok (by rw[HTt.out];exact⟨HBf.out,by simpa using hid,fun h2=>absurd h2 (by simpa using hs2),fun _=>by show eH e.lk tid<0;rw[HWt.out];simpa using hwt⟩),hB⟩
         .go_wp2_with fail
          refine R0 (fun W'=>W'.cell? ⟨g,off+k*8,O⟩=Y (I J tid)/\W'.cell? ⟨g,off+k*8+2,O⟩=Y (I J tst)/\W'.cell? ⟨g,off+k*8+3,O⟩=Y (Z au nu cu)/\W'.cell? ⟨g,off+k*8+4,O⟩=Y (I J twk)/\W'.cell? ⟨g,off+k*8+5,O⟩=Y (I J twa)/\W'.cell? ⟨g,off+k*8+6,O⟩=Y (I J twb)/\W'.cell? ⟨g,off+k*8+7,O⟩=Y (I J twv)/\W'.cell? ⟨B0,0,O⟩=Y (I J 0)/\W'.cell? ⟨B0,1,O⟩=Y (I J 0)/\W'.cell? ⟨B0,2,O⟩=Y (I J 0)/\W'.cell? ⟨B0,3,O⟩=Y (I J 0)/\W'.cell? ⟨b,2,O⟩=Y (Z s.ka s.kn s.kc)/\LkAt W' s.ka s.kn e.lk/\V' w W') (⟨t0,t2,t3,t4,t5,t6,t7,z0,z1,z2,z3,x2,hLk.below ((Aa _ _).drew),hB.drew⟩) (fun hH=>?_);refine R5 0 1 2 3 4 ?_;refine R5 5 6 7 8 9 ?_;refine R5 10 11 12 13 14 ?_;refine R6 15 (fun K hK=>?_);go_simp;refine(mM s.ka s.kn s.kc tid e.lk _ hH.2.2.2.2.2.2.2.2.2.2.2.2.1 h.2.n3).mono ?_;rintro r9 w9⟨rfl,hw9⟩;obtain rfl:=hw9.symm;rw[HWt.out];refine hK.out _ _ ?_ (fun hH=>?_)
          .exact hH
          clear hK K;refine R2 16 17 ?_;refine R7 ?_;obtain⟨t0,t2,t3,t4,t5,t6,t7,z0,z1,z2,z3,x2,hLk,hB⟩:=hH;go_wp2;go_ret;exact⟨TxnC.bad (by decide),hB⟩
        .go_wp2_with fail
         refine R0 (fun W'=>W'.cell? ⟨g,off+k*8,O⟩=Y (I J tid)/\W'.cell? ⟨g,off+k*8+2,O⟩=Y (I J tst)/\W'.cell? ⟨g,off+k*8+3,O⟩=Y (Z au nu cu)/\W'.cell? ⟨g,off+k*8+4,O⟩=Y (I J twk)/\W'.cell? ⟨g,off+k*8+5,O⟩=Y (I J twa)/\W'.cell? ⟨g,off+k*8+6,O⟩=Y (I J twb)/\W'.cell? ⟨g,off+k*8+7,O⟩=Y (I J twv)/\W'.cell? ⟨B0,0,O⟩=Y (I J 0)/\W'.cell? ⟨B0,1,O⟩=Y (I J 0)/\W'.cell? ⟨B0,2,O⟩=Y (I J 0)/\W'.cell? ⟨B0,3,O⟩=Y (I J 0)/\W'.cell? ⟨b,2,O⟩=Y (Z s.ka s.kn s.kc)/\LkAt W' s.ka s.kn e.lk/\V' w W') (⟨t0,t2,t3,t4,t5,t6,t7,z0,z1,z2,z3,x2,hLk.below ((Aa _ _).drew),hB.drew⟩) (fun hH=>?_);refine R5 0 1 2 3 4 ?_;refine R8 5 (h:=R8 6 (h:=R9 7 (h:=R9 8 (h:=R9 9 (h:=J3 ?_)))));refine R9 10 (h:=R9 11 (h:=R9 12 (h:=R9 13 (h:=R9 14 (h:=J3 ?_)))));refine R9 15 (h:=R9 16 (h:=R8 17 (h:=J3 ?_)));refine R7 ?_;obtain⟨t0,t2,t3,t4,t5,t6,t7,z0,z1,z2,z3,x2,hLk,hB⟩:=hH;go_wp2;go_ret;exact⟨TxnC.bad (by decide),hB⟩
       .go_wp2_with fail
        refine(oH twk twa twb twv _).mono ?_;rintro r9 w9⟨rfl,hw9⟩;have hB:=hB.trans (hw9.mono hB.size);obtain⟨oc,HOc⟩:∃oc,Hid (aF twk twa twb twv=oc):=⟨_,rfl⟩
        rw[HOc.out];cases hoc:(oc !=0)
        .go_wp2;go_ret;exact⟨TxnC.ok (by rw[HTt.out];exact⟨HBf.out,by simpa using hid,fun _=>by show aF twk twa twb twv=0;rw[HOc.out];simpa using hoc,fun h2=>absurd (by simpa using hs2) h2⟩),hB⟩
        .go_wp2;go_ret;exact⟨TxnC.bad (by decide),hB⟩
      .have hp:0<nu:=by omega
       have hp':(0:Int)<(nu:Int):=by omega
       go_wp2_with fail
       have kA:V' w1 (w1.alloc (M #[I J 0,I J 0,I J 0,I J 0] 54)):=(Aa _ _).alloc z' _;have hz:(w1.alloc (M #[I J 0,I J 0,I J 0,I J 0] 54)).heap[w1.heap.size]? =Y (M #[I J 0,I J 0,I J 0,I J 0] 54 (0,0)):=aP rfl;have z0:_=Y (I J 0):=Ai _ _ 0 _ _ _ hz;have z1:_=Y (I J 0):=Ai _ _ 1 _ _ _ hz;have z2:_=Y (I J 0):=Ai _ _ 2 _ _ _ hz;have z3:_=Y (I J 0):=Ai _ _ 3 _ _ _ hz;have t0:=keep_cell kA t0;have t2:=keep_cell kA t2;have t3:=keep_cell kA t3;have t4:=keep_cell kA t4;have t5:=keep_cell kA t5;have t6:=keep_cell kA t6;have t7:=keep_cell kA t7;have x2:=keep_cell kA x2;have hLk:=hLk.below kA;have hB:=hB.trans (kA.mono hB.size);clear kA hz;rw[hB0]at z0 z1 z2 z3;generalize w1.alloc (M #[I J 0,I J 0,I J 0,I J 0] 54)=w2 at*;refine R0 (fun W'=>W'.cell? ⟨g,off+k*8,O⟩=Y (I J tid)/\W'.cell? ⟨g,off+k*8+2,O⟩=Y (I J tst)/\W'.cell? ⟨g,off+k*8+3,O⟩=Y (Z au nu cu)/\W'.cell? ⟨g,off+k*8+4,O⟩=Y (I J twk)/\W'.cell? ⟨g,off+k*8+5,O⟩=Y (I J twa)/\W'.cell? ⟨g,off+k*8+6,O⟩=Y (I J twb)/\W'.cell? ⟨g,off+k*8+7,O⟩=Y (I J twv)/\W'.cell? ⟨B0,0,O⟩=Y (I J 0)/\W'.cell? ⟨B0,1,O⟩=Y (I J 0)/\W'.cell? ⟨B0,2,O⟩=Y (I J 0)/\W'.cell? ⟨B0,3,O⟩=Y (I J 0)/\W'.cell? ⟨b,2,O⟩=Y (Z s.ka s.kn s.kc)/\LkAt W' s.ka s.kn e.lk/\V' w W') (⟨t0,t2,t3,t4,t5,t6,t7,z0,z1,z2,z3,x2,hLk.below ((Aa _ _).drew),hB.drew⟩) (fun hH=>?_);refine R5 0 1 2 3 4 ?_;refine R5 5 6 7 8 9 ?_;refine R4 10 11 12 13 ?_;refine R6 14 (fun K hK=>?_);go_simp;refine(xZ s.ka s.kn s.kc tid e.lk _ hH.2.2.2.2.2.2.2.2.2.2.2.2.1 h.2.n3).mono ?_;rintro r9 w9⟨rfl,hw9⟩;rw[HHv.out];refine hK.out _ _ ?_ (fun hH=>?_)
       .obtain⟨t0,t2,t3,t4,t5,t6,t7,z0,z1,z2,z3,x2,hLk,hB⟩:=hH;exact⟨keep_cell hw9 t0,keep_cell hw9 t2,keep_cell hw9 t3,keep_cell hw9 t4,keep_cell hw9 t5,keep_cell hw9 t6,keep_cell hw9 t7,keep_cell hw9 z0,keep_cell hw9 z1,keep_cell hw9 z2,keep_cell hw9 z3,keep_cell hw9 x2,hLk.below hw9,hB.trans (hw9.mono hB.size)⟩
       clear hK K;refine R5 15 16 17 18 19 ?_;refine R4 20 21 22 23 ?_;refine R7 ?_;obtain⟨t0,t2,t3,t4,t5,t6,t7,z0,z1,z2,z3,x2,hLk,hB⟩:=hH;go_wp2_with fail
       go_ret;exact⟨TxnC.bad (by decide),hB⟩
     .go_wp2_with fail
      have kA:V' w1 (w1.alloc (M #[I J 0,I J 0,I J 0,I J 0] 54)):=(Aa _ _).alloc z' _;have hz:(w1.alloc (M #[I J 0,I J 0,I J 0,I J 0] 54)).heap[w1.heap.size]? =Y (M #[I J 0,I J 0,I J 0,I J 0] 54 (0,0)):=aP rfl;have z0:_=Y (I J 0):=Ai _ _ 0 _ _ _ hz;have z1:_=Y (I J 0):=Ai _ _ 1 _ _ _ hz;have z2:_=Y (I J 0):=Ai _ _ 2 _ _ _ hz;have z3:_=Y (I J 0):=Ai _ _ 3 _ _ _ hz;have t0:=keep_cell kA t0;have t2:=keep_cell kA t2;have t3:=keep_cell kA t3;have t4:=keep_cell kA t4;have t5:=keep_cell kA t5;have t6:=keep_cell kA t6;have t7:=keep_cell kA t7;have x2:=keep_cell kA x2;have hLk:=hLk.below kA;have hB:=hB.trans (kA.mono hB.size);clear kA hz;rw[hB0]at z0 z1 z2 z3;generalize w1.alloc (M #[I J 0,I J 0,I J 0,I J 0] 54)=w2 at*;refine R0 (fun W'=>W'.cell? ⟨g,off+k*8,O⟩=Y (I J tid)/\W'.cell? ⟨g,off+k*8+2,O⟩=Y (I J tst)/\W'.cell? ⟨g,off+k*8+3,O⟩=Y (Z au nu cu)/\W'.cell? ⟨g,off+k*8+4,O⟩=Y (I J twk)/\W'.cell? ⟨g,off+k*8+5,O⟩=Y (I J twa)/\W'.cell? ⟨g,off+k*8+6,O⟩=Y (I J twb)/\W'.cell? ⟨g,off+k*8+7,O⟩=Y (I J twv)/\W'.cell? ⟨B0,0,O⟩=Y (I J 0)/\W'.cell? ⟨B0,1,O⟩=Y (I J 0)/\W'.cell? ⟨B0,2,O⟩=Y (I J 0)/\W'.cell? ⟨B0,3,O⟩=Y (I J 0)/\W'.cell? ⟨b,2,O⟩=Y (Z s.ka s.kn s.kc)/\LkAt W' s.ka s.kn e.lk/\V' w W') (⟨t0,t2,t3,t4,t5,t6,t7,z0,z1,z2,z3,x2,hLk.below ((Aa _ _).drew),hB.drew⟩) (fun hH=>?_);refine R5 0 1 2 3 4 ?_;refine R5 5 6 7 8 9 ?_;refine R4 10 11 12 13 ?_;refine R6 14 (fun K hK=>?_);go_simp;refine(xZ s.ka s.kn s.kc tid e.lk _ hH.2.2.2.2.2.2.2.2.2.2.2.2.1 h.2.n3).mono ?_;rintro r9 w9⟨rfl,hw9⟩;rw[HHv.out];refine hK.out _ _ ?_ (fun hH=>?_)
      .obtain⟨t0,t2,t3,t4,t5,t6,t7,z0,z1,z2,z3,x2,hLk,hB⟩:=hH;exact⟨keep_cell hw9 t0,keep_cell hw9 t2,keep_cell hw9 t3,keep_cell hw9 t4,keep_cell hw9 t5,keep_cell hw9 t6,keep_cell hw9 t7,keep_cell hw9 z0,keep_cell hw9 z1,keep_cell hw9 z2,keep_cell hw9 z3,keep_cell hw9 x2,hLk.below hw9,hB.trans (hw9.mono hB.size)⟩
      clear hK K;refine R8 15 (h:=R9 16 (h:=R9 17 (h:=R9 18 (h:=R9 19 (h:=J3 ?_)))));refine R9 20 (h:=R9 21 (h:=R8 22 (h:=R8 23 (h:=J3 ?_))));refine R7 ?_;obtain⟨t0,t2,t3,t4,t5,t6,t7,z0,z1,z2,z3,x2,hLk,hB⟩:=hH;go_wp2_with fail
      go_ret;exact⟨TxnC.bad (by decide),hB⟩
end Go.Proofs.YtpbbokalojdooaaGreat
