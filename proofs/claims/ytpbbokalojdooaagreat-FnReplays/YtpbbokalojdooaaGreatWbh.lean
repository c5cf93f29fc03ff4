import Derived.Test.YtpbbokalojdooaaGreatWax
import Derived.Test.YtpbbokalojdooaaGreatWbf
namespace Go.Proofs.YtpbbokalojdooaaGreat
open Go.RowKit Ch Go.Proofs.Tryz
set_option linter.unusedSimpArgs false
set_option linter.unusedVariables false
set_option maxRecDepth 20000
set_option maxHeartbeats 8000000
open Value renaming int->I,slice->Z,bool->X,agg->U
open IntKind renaming i64->J
open Option renaming none->O,some->Y
open Obj renaming cells->M
open Ending renaming returned->R'
open Bool renaming true->A',false->F'
variable {b:Bool} {vs:List (Value×Value)} {ls:List Lock} {l:Lock} {T:TypeId} {v:Value} {W:World}
theorem OwnK.setLow{B b n:Nat}(hh:OwnK T W B v n ls vs)(hb:b<B)(i:Nat)(u:Value):OwnK T (W.setCell ⟨b,i,O⟩ u) B v n ls vs:=
 ⟨hh.len,hh.vlen,Bd hh.row hb _,fun j p hp=>Bd (hh.hs j p hp) hb _,fun j p hp=>Bd (hh.qs j p hp) hb _,hh.apart⟩
def jB(ls:List Lock)(t r m:Int):Int×Bool×List Lock:=if(lQ ls t r m).2.1 !=0 then((lQ ls t r m).2.1,F',[])else(0,(lQ ls t r m).1,gV ls t r m)
theorem bY4{t r m:Int}(h:cR (aI (bQ r ls) (aX r ls)) t m=(b,2,l)):jB ls t r m=(2,F',[]):=by unfold jB lQ;rw[h];rfl
theorem bY5{t r m:Int}(h:cR (aI (bQ r ls) (aX r ls)) t m=(b,0,l)):jB ls t r m=(0,b,gV ls t r m):=by unfold jB lQ;rw[h];rfl
theorem zH{h:Hold}(hq:¬20<=l.qs.length):dV l l.qs.length h=(F',0,⟨l.r,l.hs,l.qs++[h]⟩):=by rw[wZ hq];simp
theorem cW7(a:Option Addr)(n cap:Nat)(t res mode:Int)(ls:List Lock)(w:World)(h:LkAt w a n ls)(hs:dS ls<=1048576)(hg:aT ls=0)(hm:inB mode 1 5=A'):
  Calls prog 181 #[Z a n cap,I J t,I J res,I J mode] w fun e w'=>∃a2 m2 c2,e=R' (U #[I J (jB ls t res mode).1,X (jB ls t res mode).2.1,Z O 0 0,Z a2 m2 c2])/\cO8 227 w' w.heap.size (Z a2 m2 c2) m2 (jB ls t res mode).2.2/\V' w w':=by
 have kA:∀o,V' w (w.alloc o):=fun o=>(Aa _ _).alloc z' o;have HL:=h.len;have hn:n<=1048576:=by unfold dS at hs;have:=HL.out;omega
 have HPL:=hid (qT res ls).1;have HWA:=hid (aR0 hg res);have HM:=hid (aM3 hm);have HMB:=hid hm;obtain⟨j0,gi0,gz0,gz1,gz2⟩:=Bz Tryz.info232;have HXN:=hid (fun b l=>bY4 (ls:=ls) (t:=t) (r:=res) (m:=mode) (b:=b) (l:=l));have HXO:=hid (fun b l=>bY5 (ls:=ls) (t:=t) (r:=res) (m:=mode) (b:=b) (l:=l));obtain⟨l,HLK⟩:∃l,Hid (aI (bQ res ls) (aX res ls)=l):=⟨_,rfl⟩
 rw[HLK.out]at HWA HXN HXO;obtain⟨r,lhs,lqs⟩:=l;simp only at HWA;have hszh:lhs.length<=1048576:=by have:=HWA.out.1;omega
 have hszq:lqs.length<=1048576:=by have:=HWA.out.2.1;omega
 have HNM:=hid HWA.out.2.2.1;clear hg hm;rcases eI lhs t with⟨he,HAT,hmz⟩|⟨j,hj,HAT,he,hjt,hjm⟩
 .have HCF:=hid (bY7 (l:=⟨r,lhs,lqs⟩) (t:=t) (m:=mode) (by simp only;rw[hmz];exact qY HMB.out));have HCP:=hid (aI7 (l:=⟨r,lhs,lqs⟩) (t:=t) (m:=mode) (by simp only;rw[hmz];exact qY HMB.out));have HCX:=hid (bL3 (l:=⟨r,lhs,lqs⟩) (t:=t) (m:=mode) (by simp only;rw[hmz];exact qY HMB.out));have HPN:=hid (pU (h:=⟨t,mode⟩) he);simp only at HCF HCP HCX;rw[hmz,bD6 HMB.out]at HCF HCP HCX;rw[he]at HCP HCX;clear hmz he;go_enter func181,ntmps181
  go_wp2_with fail
  refine(yE a n cap ls _ (h.below (kA _)) hs).mono ?_;rintro e w2⟨o0,c2,rfl,⟨vs2,own2⟩,b2⟩;have hR2:=fG b2 (Ar w _);have BW2:=aZ b2;have lz0:w.heap.size<(w.alloc (M #[I J 0,X F',Z O 0 0,Z O 0 0] 244)).heap.size:=by rw[World.size_alloc];omega
  have hB2:=b2.size;generalize(w.alloc (M #[I J 0,X F',Z O 0 0,Z O 0 0] 244)).heap.size=B1 at*;clear b2;go_wp2_with fail
  refine(aE0 B1 o0 n c2 res ls vs2 _ own2 hn hB2).mono ?_;rintro e w3⟨a3,m3,c3,rfl,⟨vs3,own3⟩,b3⟩;have hRU:=iK b3 lz0 hR2;have BWU:=BW2.trans (b3.mono (by omega));have hBU:B1<=w3.heap.size:=Ak hB2 b3.size;have hwl:=lz0;have lz:=lz0;have hk3:aX res ls<m3:=by have h1:=own3.len;have:=HPL.out;omega
  obtain⟨o,rfl⟩:=own3.rowAt hk3;clear own2 b3 hB2 hR2 BW2;obtain⟨ah,ch,aq,cq,hp,c0,u1,u2,f1,f2,o1,o2,ne,nr,ob1,ob2⟩:=own3.one hk3;have hr0:Hid ((aI (bQ res ls) (aX res ls)).r=r):=by show _=_;rw[HLK.out]
  rw[HLK.out]at hp c0 u1 u2 o1 o2 ne nr;simp only at hp c0 u1 u2 o1 o2 ne nr;have h3:=aO o1;have HLS:Hid (∀x,cR ⟨r,lhs,lqs⟩ t mode=x->gV ls t res mode=(bQ res ls).set (aX res ls) x.2.2):=fun x hx=>by show(bQ res ls).set _ (cR (aI (bQ res ls) (aX res ls)) t mode).2.2=_;rw[HLK.out,hx]
  have HSM:=hid (wM (bQ res ls) (aX res ls));rw[HLK.out]at HSM;generalize aX res ls=pl at*;have ownU:=own3;clear own3;generalize w3=U0 at*;have HAT:=hid HAT;go_wp2_with fail
  refine(fZ ah lhs.length ch t lhs _ h3 hszh).mono ?_;rintro e w4⟨rfl,hw4⟩;obtain rfl:U0=w4:=hw4.symm;rw[HAT.out];have kX:V' U0 (U0.alloc (M #[I J t,I J mode] 232)):=(Aa _ _).alloc z' _;have z0:(U0.alloc (M #[I J t,I J mode] 232)).cell? ⟨U0.heap.size,0,O⟩=Y (I J t):=by simp[go_sem]
  have z1:(U0.alloc (M #[I J t,I J mode] 232)).cell? ⟨U0.heap.size,1,O⟩=Y (I J mode):=by simp[go_sem]
  have HBX:Hid (U0.heap.size∉(Z (Y ⟨o,0,O⟩) m3 c3).ownBlock.toList++vs3.flatMap blks):=fun hmem=>by
   rw[Aj]at hmem;rcases hmem with h2|h2
   .have:=(aH ownU.row _ (by simpa using h2)).2;omega
   .obtain⟨i,q,hq,hgq⟩:=qC h2;have:=(ownU.bd hq hgq).2;omega
  replace u1:=keep_cell kX u1;replace u2:=keep_cell kX u2;replace f1:=((dH kX).2 o (pl*3+1) ob2).trans f1;replace f2:=((dH kX).2 o (pl*3+2) ob2).trans f2;replace o1:=aG o1 kX;replace o2:=aG o2 kX;replace h3:=h3.below kX;replace ownU:=ownU.below kX;replace hRU:=fG kX hRU;replace BWU:=BWU.trans (kX.mono BWU.size);replace hBU:=Ak hBU kX.size;have hob:o≠U0.heap.size:=fun e=>HBX.out (Aj.2 (.inl (by simp[Value.ownBlock,<-e])));clear kX c0 ob2;by_cases hq0:lqs.length=0
  .have hqb:((lqs.length:Int)==0)=A':=by rw[hq0];rfl
   cases hft:eR lhs t mode
   .have HE:=hid ((HCF.out (by rw[hft];rfl)).trans (zH (l:=⟨r,lhs,lqs⟩) (by simp only;omega)));have HAX:=hid (HXO.out _ _ HE.out);have HLX:=hid (HLS.out _ HE.out);simp only at HLX;have h20:¬20<=lqs.length:=by omega
    clear hq0;go_wp2_with fail
    generalize U0.alloc (M #[I J t,I J mode] 232)=U' at*;generalize U0.heap.size=bx at*;refine(jD ah lhs.length ch t mode lhs _ h3 hszh HNM.out HM.out).mono ?_;rintro e w5⟨rfl,hw5⟩;obtain rfl:U'=w5:=hw5.symm;rw[hft];clear hqb;go_wp2_with fail
    have BWV:V' w U'.drew:=BWU.drew;have hRV:U'.drew.heap[w.heap.size]? =_:=hRU;have own:=ownU.below ((Aa _ _).drew:V' U' U'.drew);have hB1:B1<=U'.drew.heap.size:=hBU;replace z0:U'.drew.cell? ⟨bx,0,O⟩=_:=z0;replace z1:U'.drew.cell? ⟨bx,1,O⟩=_:=z1;replace u1:U'.drew.cell? ⟨o,pl*3+1,O⟩=_:=u1;replace u2:U'.drew.cell? ⟨o,pl*3+2,O⟩=_:=u2;replace o1:=aG o1 ((Aa _ _).drew:V' U' U'.drew);replace o2:=aG o2 ((Aa _ _).drew:V' U' U'.drew);replace f1:U'.drew.frozen? ⟨o,pl*3+1,O⟩=_:=f1;replace f2:U'.drew.frozen? ⟨o,pl*3+2,O⟩=_:=f2;refine R0 (fun W'=>W'.cell? ⟨bx,0,O⟩=Y (I J t)/\W'.cell? ⟨bx,1,O⟩=Y (I J mode)) (⟨z0,z1⟩) (fun hH=>?_);generalize U'.drew=V at*;have lo2:o<V.heap.size:=aD u1;have kN:V' V (V.alloc (M #[I J t,I J mode] 232)):=(Aa _ _).alloc z' _;have kT:=kN;have oN:=aG o2 kN;have hC:=gA V t mode 232;have hsum:lqs.length+1<=4194304:=by omega
    have hb3:B1<=(V.alloc (M #[I J t,I J mode] 232)).heap.size:=Ak hB1 kN.size;have hbx:(Z aq lqs.length cq).ownBlock≠Y bx:=fun e=>HBX.out (Aj.2 (.inr (Cf.2 ⟨_,Dv hp,by simp[blks,e]⟩)));refine R5 0 1 2 3 5 ?_;refine Dr (rs:=[4,6]) (by kernel_rfl) (by simp) ?_;refine Bi rfl (fun K hK=>?_) (Bi rfl (fun K hK=>?_) Dk)
    .go_simp;refine hK.out _ _ hH (fun hH=>?_);clear hK K;refine R6 6 (fun K hK=>?_);go_simp;refine hK.out _ _ ⟨keep_cell kN hH.1,keep_cell kN hH.2⟩ (fun hH=>?_);clear hK K;refine R6 7 (fun K hK=>?_);refine dP underlying225 underlying225 gi0 gz0 gz1 gz2 rfl (by omega) (by omega) (.tmp 141) (.tmp 143) rfl rfl B1 (Z aq lqs.length cq) lqs.length (hcells lqs) _ 1 1 (hcells [⟨t,mode⟩]) rfl rfl oN hC (cF _) hsum hb3 ?_;intro a5 c5 w5 own5 gr5 at5;have d1:=(aK gr5 (keep_cell kN u2) (fun e=>nr (by simp[blks,e])))
     have g1:=(gr5.frozen_far ⟨o,pl*3+2,O⟩ (At lo2 kN.size) (by show Y o≠_;exact fun e=>nr (by simp[blks,e.symm]))).trans (((dH kN).2 o (pl*3+2) lo2).trans f2);have lo5:=aD d1;refine hK.out _ _ ⟨aK gr5 hH.1 hbx,aK gr5 hH.2 hbx⟩ (fun hH=>?_);clear hK K;refine J3 ?_;refine R2 8 9 ?_;refine R6 10 (fun K hK=>?_);go_simp;refine hK.out _ _ (by first|(go_simp;done)|exact⟨by rw[Aq _ _ _ _ (by simp;omega)];exact hH.1,by rw[Aq _ _ _ _ (by simp;omega)];exact hH.2⟩) (fun hH=>?_);clear hK K;refine R7 ?_;rw[<-cD]at own5;have grT:V.grownBy w5 (Z aq lqs.length cq).ownBlock:=⟨gr5.os.trans kT.os,gr5.tape.trans kT.tape,gr5.output.trans kT.output,Ak kT.size gr5.size,fun q hq hne=>(gr5.block q (At hq kT.size) hne).trans (kT.block q hq)⟩
     have hf:∀g∈blks (Z ah lhs.length ch,Z a5 (lqs.length+1) c5),g∈blks (Z ah lhs.length ch,Z aq lqs.length cq)\/V.heap.size<=g:=by
      intro g hg;simp only[blks,Aj,Ee]at hg⊢;rcases hg with hg|hg
      .exact .inl (.inl hg)
      .rcases at5 g hg with h1|h1
       .exact .inl (.inr h1)
       .exact .inr (Ak kT.size h1)
     have oy':=aN o1 grT (fun g hg e=>ne g hg e);have ownx:=own.swap (j:=2) (z:=Z a5 (lqs.length+1) c5) hp grT (fun g hg=>by simp[blks,hg]) (l:=⟨r,lhs,lqs++[⟨t,mode⟩]⟩) hr0.out.symm oy' (by simp only[Bv,List.length_cons,List.length_nil];exact own5) (fun g h1 h2=>by
      rcases at5 g h2 with h3|h3
      .exact ne g h1 h3
      .exact absurd (aH o1 g h1).2 (Ft (Ak kT.size h3))) hf (.inr ⟨rfl,rfl,rfl⟩)
     have hst:=(aN own.row grT (fun g hg e=>by cases hg;exact nr (by simp[blks,e]))).stored (pl*3+2) (Z a5 (lqs.length+1) c5);have mv:=(pT (v:=Z (Y ⟨o,0,O⟩) m3 c3) (vs':=vs3.set pl (Z ah lhs.length ch,Z a5 (lqs.length+1) c5)) hp rfl grT hst.2 (fun g hg=>by simp[blks,hg]) rfl hf).below own hB1;rw[<-HLX.out]at ownx;have hRx:=iK mv lz hRV;have BWx:=BWV.trans (mv.mono (by omega));clear own5 hf hst grT gr5 at5 oy' mv d1 g1;obtain⟨⟨x0,x1,x2,x3⟩,ff0,ff1,ff2,ff3⟩:=iO hRx;have lrx:=aD x0;have OX:=hid ownx;clear ownx;go_wp2;exact Ae (v:=U #[I J 0,X F',Z O 0 0,Z (Y ⟨o,0,O⟩) m3 c3]) (by simp[results,Tryz.results181,go_sem,x0,x1,x2,x3]) rfl ⟨_,_,_,by rw[HAX.out],by rw[HAX.out];exact⟨_,((((OX.out.setLow hwl _ _).setLow hwl _ _).setLow hwl _ _).setLow hwl _ _).base (by omega)⟩,(BWx.setCell (p:=⟨w.heap.size,0,O⟩) z' _|>.setCell (p:=⟨w.heap.size,1,O⟩) z' _|>.setCell (p:=⟨w.heap.size,2,O⟩) z' _|>.setCell (p:=⟨w.heap.size,3,O⟩) z' _)⟩
    .go_simp;refine hK.out _ _ ⟨keep_cell kN hH.1,keep_cell kN hH.2⟩ (fun hH=>?_);clear hK K;refine R6 4 (fun K hK=>?_);have e1:=keep_cell kN u2;go_simp;refine hK.out _ _ hH (fun hH=>?_);clear hK K;refine R6 7 (fun K hK=>?_);refine dP underlying225 underlying225 gi0 gz0 gz1 gz2 rfl (by omega) (by omega) (.tmp 141) (.tmp 143) rfl rfl B1 (Z aq lqs.length cq) lqs.length (hcells lqs) _ 1 1 (hcells [⟨t,mode⟩]) rfl rfl oN hC (cF _) hsum hb3 ?_;intro a5 c5 w5 own5 gr5 at5;have d1:=(aK gr5 (keep_cell kN u2) (fun e=>nr (by simp[blks,e])))
     have g1:=(gr5.frozen_far ⟨o,pl*3+2,O⟩ (At lo2 kN.size) (by show Y o≠_;exact fun e=>nr (by simp[blks,e.symm]))).trans (((dH kN).2 o (pl*3+2) lo2).trans f2);have lo5:=aD d1;refine hK.out _ _ ⟨aK gr5 hH.1 hbx,aK gr5 hH.2 hbx⟩ (fun hH=>?_);clear hK K;refine J3 ?_;refine R2 8 9 ?_;refine R6 10 (fun K hK=>?_);go_simp;refine hK.out _ _ (by first|(go_simp;done)|exact⟨by rw[Aq _ _ _ _ (by simp;omega)];exact hH.1,by rw[Aq _ _ _ _ (by simp;omega)];exact hH.2⟩) (fun hH=>?_);clear hK K;refine R7 ?_;rw[<-cD]at own5;have grT:V.grownBy w5 (Z aq lqs.length cq).ownBlock:=⟨gr5.os.trans kT.os,gr5.tape.trans kT.tape,gr5.output.trans kT.output,Ak kT.size gr5.size,fun q hq hne=>(gr5.block q (At hq kT.size) hne).trans (kT.block q hq)⟩
     have hf:∀g∈blks (Z ah lhs.length ch,Z a5 (lqs.length+1) c5),g∈blks (Z ah lhs.length ch,Z aq lqs.length cq)\/V.heap.size<=g:=by
      intro g hg;simp only[blks,Aj,Ee]at hg⊢;rcases hg with hg|hg
      .exact .inl (.inl hg)
      .rcases at5 g hg with h1|h1
       .exact .inl (.inr h1)
       .exact .inr (Ak kT.size h1)
     have oy':=aN o1 grT (fun g hg e=>ne g hg e);have ownx:=own.swap (j:=2) (z:=Z a5 (lqs.length+1) c5) hp grT (fun g hg=>by simp[blks,hg]) (l:=⟨r,lhs,lqs++[⟨t,mode⟩]⟩) hr0.out.symm oy' (by simp only[Bv,List.length_cons,List.length_nil];exact own5) (fun g h1 h2=>by
      rcases at5 g h2 with h3|h3
      .exact ne g h1 h3
      .exact absurd (aH o1 g h1).2 (Ft (Ak kT.size h3))) hf (.inr ⟨rfl,rfl,rfl⟩)
     have hst:=(aN own.row grT (fun g hg e=>by cases hg;exact nr (by simp[blks,e]))).stored (pl*3+2) (Z a5 (lqs.length+1) c5);have mv:=(pT (v:=Z (Y ⟨o,0,O⟩) m3 c3) (vs':=vs3.set pl (Z ah lhs.length ch,Z a5 (lqs.length+1) c5)) hp rfl grT hst.2 (fun g hg=>by simp[blks,hg]) rfl hf).below own hB1;rw[<-HLX.out]at ownx;have hRx:=iK mv lz hRV;have BWx:=BWV.trans (mv.mono (by omega));clear own5 hf hst grT gr5 at5 oy' mv d1 g1;obtain⟨⟨x0,x1,x2,x3⟩,ff0,ff1,ff2,ff3⟩:=iO hRx;have lrx:=aD x0;have OX:=hid ownx;clear ownx;go_wp2;exact Ae (v:=U #[I J 0,X F',Z O 0 0,Z (Y ⟨o,0,O⟩) m3 c3]) (by simp[results,Tryz.results181,go_sem,x0,x1,x2,x3]) rfl ⟨_,_,_,by rw[HAX.out],by rw[HAX.out];exact⟨_,((((OX.out.setLow hwl _ _).setLow hwl _ _).setLow hwl _ _).setLow hwl _ _).base (by omega)⟩,(BWx.setCell (p:=⟨w.heap.size,0,O⟩) z' _|>.setCell (p:=⟨w.heap.size,1,O⟩) z' _|>.setCell (p:=⟨w.heap.size,2,O⟩) z' _|>.setCell (p:=⟨w.heap.size,3,O⟩) z' _)⟩
   .by_cases h20:20<=lhs.length
    .have HE:=hid (HCX.out (by rw[hft,hq0];rfl) hft (by simp;omega));have HAX:=hid (HXN.out _ _ HE.out);clear hq0;go_wp2_with fail
     generalize U0.alloc (M #[I J t,I J mode] 232)=U' at*;generalize U0.heap.size=bx at*;refine(jD ah lhs.length ch t mode lhs _ h3 hszh HNM.out HM.out).mono ?_;rintro e w5⟨rfl,hw5⟩;obtain rfl:U'=w5:=hw5.symm;rw[hft];have hRx:=hRU;have BWx:=BWU;obtain⟨⟨x0,x1,x2,x3⟩,ff0,ff1,ff2,ff3⟩:=iO hRx;have lrx:=aD x0;go_wp2;exact Ae (v:=U #[I J 2,X F',Z O 0 0,Z O 0 0]) (by simp[results,Tryz.results181,go_sem,x0,x1,x2,x3]) rfl ⟨O,0,0,by rw[HAX.out],by rw[HAX.out];exact⟨[],OwnK.nil _ _ _⟩,(BWx.setCell (p:=⟨w.heap.size,0,O⟩) z' _|>.setCell (p:=⟨w.heap.size,1,O⟩) z' _|>.setCell (p:=⟨w.heap.size,2,O⟩) z' _|>.setCell (p:=⟨w.heap.size,3,O⟩) z' _)⟩
    .have HE:=hid ((HCP.out (by rw[hft,hq0];rfl) hft (by simp;omega)).trans (by rw[HPN.out]));have HAX:=hid (HXO.out _ _ HE.out);have HLX:=hid (HLS.out _ HE.out);simp only at HLX;clear hq0;go_wp2_with fail
     generalize U0.alloc (M #[I J t,I J mode] 232)=U' at*;generalize U0.heap.size=bx at*;refine(jD ah lhs.length ch t mode lhs _ h3 hszh HNM.out HM.out).mono ?_;rintro e w5⟨rfl,hw5⟩;obtain rfl:U'=w5:=hw5.symm;rw[hft];clear hqb;go_wp2_with fail
     have BWV:V' w U'.drew:=BWU.drew;have hRV:U'.drew.heap[w.heap.size]? =_:=hRU;have own:=ownU.below ((Aa _ _).drew:V' U' U'.drew);have hB1:B1<=U'.drew.heap.size:=hBU;replace z0:U'.drew.cell? ⟨bx,0,O⟩=_:=z0;replace z1:U'.drew.cell? ⟨bx,1,O⟩=_:=z1;replace u1:U'.drew.cell? ⟨o,pl*3+1,O⟩=_:=u1;replace u2:U'.drew.cell? ⟨o,pl*3+2,O⟩=_:=u2;replace o1:=aG o1 ((Aa _ _).drew:V' U' U'.drew);replace o2:=aG o2 ((Aa _ _).drew:V' U' U'.drew);replace f1:U'.drew.frozen? ⟨o,pl*3+1,O⟩=_:=f1;replace f2:U'.drew.frozen? ⟨o,pl*3+2,O⟩=_:=f2;refine R0 (fun W'=>W'.cell? ⟨bx,0,O⟩=Y (I J t)/\W'.cell? ⟨bx,1,O⟩=Y (I J mode)) (⟨z0,z1⟩) (fun hH=>?_);generalize U'.drew=V at*;have lo2:o<V.heap.size:=aD u1;have kN:V' V (V.alloc (M #[I J t,I J mode] 232)):=(Aa _ _).alloc z' _;have kT:=kN;have oN:=aG o1 kN;have hC:=gA V t mode 232;have hsum:lhs.length+1<=4194304:=by omega
     have hb3:B1<=(V.alloc (M #[I J t,I J mode] 232)).heap.size:=Ak hB1 kN.size;have hbx:(Z ah lhs.length ch).ownBlock≠Y bx:=fun e=>HBX.out (Aj.2 (.inr (Cf.2 ⟨_,Dv hp,by simp[blks,e]⟩)));refine R5 0 1 2 3 5 ?_;refine Dr (rs:=[4,6]) (by kernel_rfl) (by simp) ?_;refine Bi rfl (fun K hK=>?_) (Bi rfl (fun K hK=>?_) Dk)
     .go_simp;refine hK.out _ _ hH (fun hH=>?_);clear hK K;refine R6 6 (fun K hK=>?_);go_simp;refine hK.out _ _ ⟨keep_cell kN hH.1,keep_cell kN hH.2⟩ (fun hH=>?_);clear hK K;refine R6 7 (fun K hK=>?_);refine dP underlying225 underlying225 gi0 gz0 gz1 gz2 rfl (by omega) (by omega) (.tmp 122) (.tmp 124) rfl rfl B1 (Z ah lhs.length ch) lhs.length (hcells lhs) _ 1 1 (hcells [⟨t,mode⟩]) rfl rfl oN hC (cF _) hsum hb3 ?_;intro a5 c5 w5 own5 gr5 at5;have d1:=(aK gr5 (keep_cell kN u1) (fun e=>nr (by simp[blks,e])))
      have g1:=(gr5.frozen_far ⟨o,pl*3+1,O⟩ (At lo2 kN.size) (by show Y o≠_;exact fun e=>nr (by simp[blks,e.symm]))).trans (((dH kN).2 o (pl*3+1) lo2).trans f1);have lo5:=aD d1;refine hK.out _ _ ⟨aK gr5 hH.1 hbx,aK gr5 hH.2 hbx⟩ (fun hH=>?_);clear hK K;refine J3 ?_;refine R2 8 9 ?_;refine R6 10 (fun K hK=>?_);go_simp;refine hK.out _ _ (by first|(go_simp;done)|exact⟨by rw[Aq _ _ _ _ (by simp;omega)];exact hH.1,by rw[Aq _ _ _ _ (by simp;omega)];exact hH.2⟩) (fun hH=>?_);clear hK K;refine R7 ?_;rw[<-cD]at own5;have grT:V.grownBy w5 (Z ah lhs.length ch).ownBlock:=⟨gr5.os.trans kT.os,gr5.tape.trans kT.tape,gr5.output.trans kT.output,Ak kT.size gr5.size,fun q hq hne=>(gr5.block q (At hq kT.size) hne).trans (kT.block q hq)⟩
      have hf:∀g∈blks (Z a5 (lhs.length+1) c5,Z aq lqs.length cq),g∈blks (Z ah lhs.length ch,Z aq lqs.length cq)\/V.heap.size<=g:=by
       intro g hg;simp only[blks,Aj,Ee]at hg⊢;rcases hg with hg|hg
       .rcases at5 g hg with h1|h1
        .exact .inl (.inl h1)
        .exact .inr (Ak kT.size h1)
       .exact .inl (.inr hg)
      have oy':=aN o2 grT (fun g hg e=>ne g e hg);have ownx:=own.swap (j:=1) (z:=Z a5 (lhs.length+1) c5) hp grT (fun g hg=>by simp[blks,hg]) (l:=⟨r,lhs++[⟨t,mode⟩],lqs⟩) hr0.out.symm (by simp only[Bv,List.length_cons,List.length_nil];exact own5) oy' (fun g h1 h2=>by
       rcases at5 g h1 with h3|h3
       .exact ne g h3 h2
       .exact absurd (aH o2 g h2).2 (Ft (Ak kT.size h3))) hf (.inl ⟨rfl,rfl,rfl⟩)
      have hst:=(aN own.row grT (fun g hg e=>by cases hg;exact nr (by simp[blks,e]))).stored (pl*3+1) (Z a5 (lhs.length+1) c5);have mv:=(pT (v:=Z (Y ⟨o,0,O⟩) m3 c3) (vs':=vs3.set pl (Z a5 (lhs.length+1) c5,Z aq lqs.length cq)) hp rfl grT hst.2 (fun g hg=>by simp[blks,hg]) rfl hf).below own hB1;rw[<-HLX.out]at ownx;have hRx:=iK mv lz hRV;have BWx:=BWV.trans (mv.mono (by omega));clear own5 hf hst grT gr5 at5 oy' mv d1 g1;obtain⟨⟨x0,x1,x2,x3⟩,ff0,ff1,ff2,ff3⟩:=iO hRx;have lrx:=aD x0;have OX:=hid ownx;clear ownx;go_wp2;exact Ae (v:=U #[I J 0,X A',Z O 0 0,Z (Y ⟨o,0,O⟩) m3 c3]) (by simp[results,Tryz.results181,go_sem,x0,x1,x2,x3]) rfl ⟨_,_,_,by rw[HAX.out],by rw[HAX.out];exact⟨_,((((OX.out.setLow hwl _ _).setLow hwl _ _).setLow hwl _ _).setLow hwl _ _).base (by omega)⟩,(BWx.setCell (p:=⟨w.heap.size,0,O⟩) z' _|>.setCell (p:=⟨w.heap.size,1,O⟩) z' _|>.setCell (p:=⟨w.heap.size,2,O⟩) z' _|>.setCell (p:=⟨w.heap.size,3,O⟩) z' _)⟩
     .go_simp;refine hK.out _ _ ⟨keep_cell kN hH.1,keep_cell kN hH.2⟩ (fun hH=>?_);clear hK K;refine R6 4 (fun K hK=>?_);have e1:=keep_cell kN u1;go_simp;refine hK.out _ _ hH (fun hH=>?_);clear hK K;refine R6 7 (fun K hK=>?_);refine dP underlying225 underlying225 gi0 gz0 gz1 gz2 rfl (by omega) (by omega) (.tmp 122) (.tmp 124) rfl rfl B1 (Z ah lhs.length ch) lhs.length (hcells lhs) _ 1 1 (hcells [⟨t,mode⟩]) rfl rfl oN hC (cF _) hsum hb3 ?_;intro a5 c5 w5 own5 gr5 at5;have d1:=(aK gr5 (keep_cell kN u1) (fun e=>nr (by simp[blks,e])))
      have g1:=(gr5.frozen_far ⟨o,pl*3+1,O⟩ (At lo2 kN.size) (by show Y o≠_;exact fun e=>nr (by simp[blks,e.symm]))).trans (((dH kN).2 o (pl*3+1) lo2).trans f1);have lo5:=aD d1;refine hK.out _ _ ⟨aK gr5 hH.1 hbx,aK gr5 hH.2 hbx⟩ (fun hH=>?_);clear hK K;refine J3 ?_;refine R2 8 9 ?_;refine R6 10 (fun K hK=>?_);go_simp;refine hK.out _ _ (by first|(go_simp;done)|exact⟨by rw[Aq _ _ _ _ (by simp;omega)];exact hH.1,by rw[Aq _ _ _ _ (by simp;omega)];exact hH.2⟩) (fun hH=>?_);clear hK K;refine R7 ?_;rw[<-cD]at own5;have grT:V.grownBy w5 (Z ah lhs.length ch).ownBlock:=⟨gr5.os.trans kT.os,gr5.tape.trans kT.tape,gr5.output.trans kT.output,Ak kT.size gr5.size,fun q hq hne=>(gr5.block q (At hq kT.size) hne).trans (kT.block q hq)⟩
      have hf:∀g∈blks (Z a5 (lhs.length+1) c5,Z aq lqs.length cq),g∈blks (Z ah lhs.length ch,Z aq lqs.length cq)\/V.heap.size<=g:=by
       intro g hg;simp only[blks,Aj,Ee]at hg⊢;rcases hg with hg|hg
       .rcases at5 g hg with h1|h1
        .exact .inl (.inl h1)
        .exact .inr (Ak kT.size h1)
       .exact .inl (.inr hg)
      have oy':=aN o2 grT (fun g hg e=>ne g e hg);have ownx:=own.swap (j:=1) (z:=Z a5 (lhs.length+1) c5) hp grT (fun g hg=>by simp[blks,hg]) (l:=⟨r,lhs++[⟨t,mode⟩],lqs⟩) hr0.out.symm (by simp only[Bv,List.length_cons,List.length_nil];exact own5) oy' (fun g h1 h2=>by
       rcases at5 g h1 with h3|h3
       .exact ne g h3 h2
       .exact absurd (aH o2 g h2).2 (Ft (Ak kT.size h3))) hf (.inl ⟨rfl,rfl,rfl⟩)
      have hst:=(aN own.row grT (fun g hg e=>by cases hg;exact nr (by simp[blks,e]))).stored (pl*3+1) (Z a5 (lhs.length+1) c5);have mv:=(pT (v:=Z (Y ⟨o,0,O⟩) m3 c3) (vs':=vs3.set pl (Z a5 (lhs.length+1) c5,Z aq lqs.length cq)) hp rfl grT hst.2 (fun g hg=>by simp[blks,hg]) rfl hf).below own hB1;rw[<-HLX.out]at ownx;have hRx:=iK mv lz hRV;have BWx:=BWV.trans (mv.mono (by omega));clear own5 hf hst grT gr5 at5 oy' mv d1 g1;obtain⟨⟨x0,x1,x2,x3⟩,ff0,ff1,ff2,ff3⟩:=iO hRx;have lrx:=aD x0;have OX:=hid ownx;clear ownx;go_wp2;exact Ae (v:=U #[I J 0,X A',Z O 0 0,Z (Y ⟨o,0,O⟩) m3 c3]) (by simp[results,Tryz.results181,go_sem,x0,x1,x2,x3]) rfl ⟨_,_,_,by rw[HAX.out],by rw[HAX.out];exact⟨_,((((OX.out.setLow hwl _ _).setLow hwl _ _).setLow hwl _ _).setLow hwl _ _).base (by omega)⟩,(BWx.setCell (p:=⟨w.heap.size,0,O⟩) z' _|>.setCell (p:=⟨w.heap.size,1,O⟩) z' _|>.setCell (p:=⟨w.heap.size,2,O⟩) z' _|>.setCell (p:=⟨w.heap.size,3,O⟩) z' _)⟩
  .by_cases h20:20<=lqs.length
   .have HE:=hid ((HCF.out (by rw[Fa (show 0<lqs.length by omega)];simp)).trans (wY (l:=⟨r,lhs,lqs⟩) h20));have HAX:=hid (HXN.out _ _ HE.out);have hRx:=hRU;have BWx:=BWU;obtain⟨⟨x0,x1,x2,x3⟩,ff0,ff1,ff2,ff3⟩:=iO hRx;have lrx:=aD x0;go_wp2;exact Ae (v:=U #[I J 2,X F',Z O 0 0,Z O 0 0]) (by simp[results,Tryz.results181,go_sem,x0,x1,x2,x3]) rfl ⟨O,0,0,by rw[HAX.out],by rw[HAX.out];exact⟨[],OwnK.nil _ _ _⟩,(BWx.setCell (p:=⟨w.heap.size,0,O⟩) z' _|>.setCell (p:=⟨w.heap.size,1,O⟩) z' _|>.setCell (p:=⟨w.heap.size,2,O⟩) z' _|>.setCell (p:=⟨w.heap.size,3,O⟩) z' _)⟩
   .have HE:=hid ((HCF.out (by rw[Fa (show 0<lqs.length by omega)];simp)).trans (zH (l:=⟨r,lhs,lqs⟩) h20));have HAX:=hid (HXO.out _ _ HE.out);have HLX:=hid (HLS.out _ HE.out);simp only at HLX;go_wp2_with fail
    generalize U0.alloc (M #[I J t,I J mode] 232)=U' at*;generalize U0.heap.size=bx at*;have BWV:V' w U'.drew:=BWU.drew;have hRV:U'.drew.heap[w.heap.size]? =_:=hRU;have own:=ownU.below ((Aa _ _).drew:V' U' U'.drew);have hB1:B1<=U'.drew.heap.size:=hBU;replace z0:U'.drew.cell? ⟨bx,0,O⟩=_:=z0;replace z1:U'.drew.cell? ⟨bx,1,O⟩=_:=z1;replace u1:U'.drew.cell? ⟨o,pl*3+1,O⟩=_:=u1;replace u2:U'.drew.cell? ⟨o,pl*3+2,O⟩=_:=u2;replace o1:=aG o1 ((Aa _ _).drew:V' U' U'.drew);replace o2:=aG o2 ((Aa _ _).drew:V' U' U'.drew);replace f1:U'.drew.frozen? ⟨o,pl*3+1,O⟩=_:=f1;replace f2:U'.drew.frozen? ⟨o,pl*3+2,O⟩=_:=f2;refine R0 (fun W'=>W'.cell? ⟨bx,0,O⟩=Y (I J t)/\W'.cell? ⟨bx,1,O⟩=Y (I J mode)) (⟨z0,z1⟩) (fun hH=>?_);generalize U'.drew=V at*;have lo2:o<V.heap.size:=aD u1;have kN:V' V (V.alloc (M #[I J t,I J mode] 232)):=(Aa _ _).alloc z' _;have kT:=kN;have oN:=aG o2 kN;have hC:=gA V t mode 232;have hsum:lqs.length+1<=4194304:=by omega
    have hb3:B1<=(V.alloc (M #[I J t,I J mode] 232)).heap.size:=Ak hB1 kN.size;have hbx:(Z aq lqs.length cq).ownBlock≠Y bx:=fun e=>HBX.out (Aj.2 (.inr (Cf.2 ⟨_,Dv hp,by simp[blks,e]⟩)));refine R5 0 1 2 3 5 ?_;refine Dr (rs:=[4,6]) (by kernel_rfl) (by simp) ?_;refine Bi rfl (fun K hK=>?_) (Bi rfl (fun K hK=>?_) Dk)
    .go_simp;refine hK.out _ _ hH (fun hH=>?_);clear hK K;refine R6 6 (fun K hK=>?_);go_simp;refine hK.out _ _ ⟨keep_cell kN hH.1,keep_cell kN hH.2⟩ (fun hH=>?_);clear hK K;refine R6 7 (fun K hK=>?_);refine dP underlying225 underlying225 gi0 gz0 gz1 gz2 rfl (by omega) (by omega) (.tmp 141) (.tmp 143) rfl rfl B1 (Z aq lqs.length cq) lqs.length (hcells lqs) _ 1 1 (hcells [⟨t,mode⟩]) rfl rfl oN hC (cF _) hsum hb3 ?_;intro a5 c5 w5 own5 gr5 at5;have d1:=(aK gr5 (keep_cell kN u2) (fun e=>nr (by simp[blks,e])))
     have g1:=(gr5.frozen_far ⟨o,pl*3+2,O⟩ (At lo2 kN.size) (by show Y o≠_;exact fun e=>nr (by simp[blks,e.symm]))).trans (((dH kN).2 o (pl*3+2) lo2).trans f2);have lo5:=aD d1;refine hK.out _ _ ⟨aK gr5 hH.1 hbx,aK gr5 hH.2 hbx⟩ (fun hH=>?_);clear hK K;refine J3 ?_;refine R2 8 9 ?_;refine R6 10 (fun K hK=>?_);go_simp;refine hK.out _ _ (by first|(go_simp;done)|exact⟨by rw[Aq _ _ _ _ (by simp;omega)];exact hH.1,by rw[Aq _ _ _ _ (by simp;omega)];exact hH.2⟩) (fun hH=>?_);clear hK K;refine R7 ?_;rw[<-cD]at own5;have grT:V.grownBy w5 (Z aq lqs.length cq).ownBlock:=⟨gr5.os.trans kT.os,gr5.tape.trans kT.tape,gr5.output.trans kT.output,Ak kT.size gr5.size,fun q hq hne=>(gr5.block q (At hq kT.size) hne).trans (kT.block q hq)⟩
     have hf:∀g∈blks (Z ah lhs.length ch,Z a5 (lqs.length+1) c5),g∈blks (Z ah lhs.length ch,Z aq lqs.length cq)\/V.heap.size<=g:=by
      intro g hg;simp only[blks,Aj,Ee]at hg⊢;rcases hg with hg|hg
      .exact .inl (.inl hg)
      .rcases at5 g hg with h1|h1
       .exact .inl (.inr h1)
       .exact .inr (Ak kT.size h1)
     have oy':=aN o1 grT (fun g hg e=>ne g hg e);have ownx:=own.swap (j:=2) (z:=Z a5 (lqs.length+1) c5) hp grT (fun g hg=>by simp[blks,hg]) (l:=⟨r,lhs,lqs++[⟨t,mode⟩]⟩) hr0.out.symm oy' (by simp only[Bv,List.length_cons,List.length_nil];exact own5) (fun g h1 h2=>by
      rcases at5 g h2 with h3|h3
      .exact ne g h1 h3
      .exact absurd (aH o1 g h1).2 (Ft (Ak kT.size h3))) hf (.inr ⟨rfl,rfl,rfl⟩)
     have hst:=(aN own.row grT (fun g hg e=>by cases hg;exact nr (by simp[blks,e]))).stored (pl*3+2) (Z a5 (lqs.length+1) c5);have mv:=(pT (v:=Z (Y ⟨o,0,O⟩) m3 c3) (vs':=vs3.set pl (Z ah lhs.length ch,Z a5 (lqs.length+1) c5)) hp rfl grT hst.2 (fun g hg=>by simp[blks,hg]) rfl hf).below own hB1;rw[<-HLX.out]at ownx;have hRx:=iK mv lz hRV;have BWx:=BWV.trans (mv.mono (by omega));clear own5 hf hst grT gr5 at5 oy' mv d1 g1;obtain⟨⟨x0,x1,x2,x3⟩,ff0,ff1,ff2,ff3⟩:=iO hRx;have lrx:=aD x0;have OX:=hid ownx;clear ownx;go_wp2;exact Ae (v:=U #[I J 0,X F',Z O 0 0,Z (Y ⟨o,0,O⟩) m3 c3]) (by simp[results,Tryz.results181,go_sem,x0,x1,x2,x3]) rfl ⟨_,_,_,by rw[HAX.out],by rw[HAX.out];exact⟨_,((((OX.out.setLow hwl _ _).setLow hwl _ _).setLow hwl _ _).setLow hwl _ _).base (by omega)⟩,(BWx.setCell (p:=⟨w.heap.size,0,O⟩) z' _|>.setCell (p:=⟨w.heap.size,1,O⟩) z' _|>.setCell (p:=⟨w.heap.size,2,O⟩) z' _|>.setCell (p:=⟨w.heap.size,3,O⟩) z' _)⟩
    .go_simp;refine hK.out _ _ ⟨keep_cell kN hH.1,keep_cell kN hH.2⟩ (fun hH=>?_);clear hK K;refine R6 4 (fun K hK=>?_);have e1:=keep_cell kN u2;go_simp;refine hK.out _ _ hH (fun hH=>?_);clear hK K;refine R6 7 (fun K hK=>?_);refine dP underlying225 underlying225 gi0 gz0 gz1 gz2 rfl (by omega) (by omega) (.tmp 141) (.tmp 143) rfl rfl B1 (Z aq lqs.length cq) lqs.length (hcells lqs) _ 1 1 (hcells [⟨t,mode⟩]) rfl rfl oN hC (cF _) hsum hb3 ?_;intro a5 c5 w5 own5 gr5 at5;have d1:=(aK gr5 (keep_cell kN u2) (fun e=>nr (by simp[blks,e])))
     have g1:=(gr5.frozen_far ⟨o,pl*3+2,O⟩ (At lo2 kN.size) (by show Y o≠_;exact fun e=>nr (by simp[blks,e.symm]))).trans (((dH kN).2 o (pl*3+2) lo2).trans f2);have lo5:=aD d1;refine hK.out _ _ ⟨aK gr5 hH.1 hbx,aK gr5 hH.2 hbx⟩ (fun hH=>?_);clear hK K;refine J3 ?_;refine R2 8 9 ?_;refine R6 10 (fun K hK=>?_);go_simp;refine hK.out _ _ (by first|(go_simp;done)|exact⟨by rw[Aq _ _ _ _ (by simp;omega)];exact hH.1,by rw[Aq _ _ _ _ (by simp;omega)];exact hH.2⟩) (fun hH=>?_);clear hK K;refine R7 ?_;rw[<-cD]at own5;have grT:V.grownBy w5 (Z aq lqs.length cq).ownBlock:=⟨gr5.os.trans kT.os,gr5.tape.trans kT.tape,gr5.output.trans kT.output,Ak kT.size gr5.size,fun q hq hne=>(gr5.block q (At hq kT.size) hne).trans (kT.block q hq)⟩
     have hf:∀g∈blks (Z ah lhs.length ch,Z a5 (lqs.length+1) c5),g∈blks (Z ah lhs.length ch,Z aq lqs.length cq)\/V.heap.size<=g:=by
      intro g hg;simp only[blks,Aj,Ee]at hg⊢;rcases hg with hg|hg
      .exact .inl (.inl hg)
      .rcases at5 g hg with h1|h1
       .exact .inl (.inr h1)
       .exact .inr (Ak kT.size h1)
     have oy':=aN o1 grT (fun g hg e=>ne g hg e);have ownx:=own.swap (j:=2) (z:=Z a5 (lqs.length+1) c5) hp grT (fun g hg=>by simp[blks,hg]) (l:=⟨r,lhs,lqs++[⟨t,mode⟩]⟩) hr0.out.symm oy' (by simp only[Bv,List.length_cons,List.length_nil];exact own5) (fun g h1 h2=>by
      rcases at5 g h2 with h3|h3
      .exact ne g h1 h3
      .exact absurd (aH o1 g h1).2 (Ft (Ak kT.size h3))) hf (.inr ⟨rfl,rfl,rfl⟩)
     have hst:=(aN own.row grT (fun g hg e=>by cases hg;exact nr (by simp[blks,e]))).stored (pl*3+2) (Z a5 (lqs.length+1) c5);have mv:=(pT (v:=Z (Y ⟨o,0,O⟩) m3 c3) (vs':=vs3.set pl (Z ah lhs.length ch,Z a5 (lqs.length+1) c5)) hp rfl grT hst.2 (fun g hg=>by simp[blks,hg]) rfl hf).below own hB1;rw[<-HLX.out]at ownx;have hRx:=iK mv lz hRV;have BWx:=BWV.trans (mv.mono (by omega));clear own5 hf hst grT gr5 at5 oy' mv d1 g1;obtain⟨⟨x0,x1,x2,x3⟩,ff0,ff1,ff2,ff3⟩:=iO hRx;have lrx:=aD x0;have OX:=hid ownx;clear ownx;go_wp2;exact Ae (v:=U #[I J 0,X F',Z O 0 0,Z (Y ⟨o,0,O⟩) m3 c3]) (by simp[results,Tryz.results181,go_sem,x0,x1,x2,x3]) rfl ⟨_,_,_,by rw[HAX.out],by rw[HAX.out];exact⟨_,((((OX.out.setLow hwl _ _).setLow hwl _ _).setLow hwl _ _).setLow hwl _ _).base (by omega)⟩,(BWx.setCell (p:=⟨w.heap.size,0,O⟩) z' _|>.setCell (p:=⟨w.heap.size,1,O⟩) z' _|>.setCell (p:=⟨w.heap.size,2,O⟩) z' _|>.setCell (p:=⟨w.heap.size,3,O⟩) z' _)⟩
 .have HHM:=hid (sO HNM.out t).1;have HN0:(bT lhs t==0)=F':=by have:=(sO HNM.out t).2;rw[he]at this;simpa using this
  have HCV:=hid (bY6 (l:=⟨r,lhs,lqs⟩) (t:=t) (m:=mode));have HCN:=hid (fun hc h3=>bL2 (l:=⟨r,lhs,lqs⟩) (t:=t) (m:=mode) hc (by simp only;rw[HN0];rfl) h3);have HCP:=hid (fun hc h3=>aI7 (l:=⟨r,lhs,lqs⟩) (t:=t) (m:=mode) hc (by simp only;rw[HN0];rfl) h3 (by simp only;rw[he];rfl));have HTB:Hid (Ch.tab pP (bT lhs t) mode=eJ (bT lhs t) mode):=by show _=_;unfold eJ;rw[HHM.out,HM.out];rfl
  have HJI:=hid (aD8 HHM.out HM.out);have HPY:=hid (rJ (h:=⟨t,eX (bT lhs t) mode⟩) he HAT);have HJM:=hid hjm.symm;have HJT:=hid hjt;clear he hjm hjt HN0;simp only at HCV HCN HCP;generalize bT lhs t=held at*;obtain⟨jm,HJN⟩:∃jm,Hid (eX held mode=jm):=⟨_,rfl⟩
  rw[HJN.out]at HCN HCP HPY HJI;go_enter func181,ntmps181
  go_wp2_with fail
  refine(yE a n cap ls _ (h.below (kA _)) hs).mono ?_;rintro e w2⟨o0,c2,rfl,⟨vs2,own2⟩,b2⟩;have hR2:=fG b2 (Ar w _);have BW2:=aZ b2;have lz0:w.heap.size<(w.alloc (M #[I J 0,X F',Z O 0 0,Z O 0 0] 244)).heap.size:=by rw[World.size_alloc];omega
  have hB2:=b2.size;generalize(w.alloc (M #[I J 0,X F',Z O 0 0,Z O 0 0] 244)).heap.size=B1 at*;clear b2;go_wp2_with fail
  refine(aE0 B1 o0 n c2 res ls vs2 _ own2 hn hB2).mono ?_;rintro e w3⟨a3,m3,c3,rfl,⟨vs3,own3⟩,b3⟩;have hRU:=iK b3 lz0 hR2;have BWU:=BW2.trans (b3.mono (by omega));have hBU:B1<=w3.heap.size:=Ak hB2 b3.size;have hwl:=lz0;have lz:=lz0;have hk3:aX res ls<m3:=by have h1:=own3.len;have:=HPL.out;omega
  obtain⟨o,rfl⟩:=own3.rowAt hk3;clear own2 b3 hB2 hR2 BW2;obtain⟨ah,ch,aq,cq,hp,c0,u1,u2,f1,f2,o1,o2,ne,nr,ob1,ob2⟩:=own3.one hk3;have hr0:Hid ((aI (bQ res ls) (aX res ls)).r=r):=by show _=_;rw[HLK.out]
  rw[HLK.out]at hp c0 u1 u2 o1 o2 ne nr;simp only at hp c0 u1 u2 o1 o2 ne nr;have h3:=aO o1;have HLS:Hid (∀x,cR ⟨r,lhs,lqs⟩ t mode=x->gV ls t res mode=(bQ res ls).set (aX res ls) x.2.2):=fun x hx=>by show(bQ res ls).set _ (cR (aI (bQ res ls) (aX res ls)) t mode).2.2=_;rw[HLK.out,hx]
  have HSM:=hid (wM (bQ res ls) (aX res ls));rw[HLK.out]at HSM;generalize aX res ls=pl at*;have ownU:=own3;clear own3;generalize w3=U0 at*;obtain⟨xb,xo,hax,q0,q1⟩:=h3.hold hj;obtain⟨xb',rfl⟩:∃xb,ah=Y ⟨xb,0,O⟩:=by
   rcases o1.2 with⟨hv,h0⟩|⟨g,cp,cur,hv,_⟩
   .omega
   .simp only[Bg,Es]at hv;exact⟨g,hv.1⟩
  simp only[Af,Ap,Cn]at hax;obtain⟨rfl,rfl⟩:=hax;rw[Al]at q0 q1;rw[HJM.out]at q1;have hxb:=aH o1 xb' rfl;have lxb:=aD q1;have lo0:=aD u1;have hxw:¬xb'=w.heap.size:=by omega
  have how:¬o=w.heap.size:=by omega
  have hxo:¬xb'=o:=fun e=>nr (by subst e;simp[blks,Value.ownBlock]);have HAT:=hid HAT;go_wp2_with fail
  refine(fZ (Y ⟨xb',0,O⟩) lhs.length ch t lhs _ h3 hszh).mono ?_;rintro e w4⟨rfl,hw4⟩;obtain rfl:U0=w4:=hw4.symm;rw[HAT.out];cases hc:eJ held mode
  .rw[hc]at HTB;go_wp2_with fail
   refine(sM held mode _ HHM.out HM.out).mono ?_;rintro e w5⟨rfl,hw5⟩;obtain rfl:U0=w5:=hw5.symm;rw[HTB.out];go_wp2_with fail
   refine(cG6 held mode _ HHM.out HM.out).mono ?_;rintro e w5⟨rfl,hw5⟩;obtain rfl:U0=w5:=hw5.symm;rw[HJN.out];cases hft:eR lhs t jm
   .by_cases h20:20<=lqs.length
    .have HE:=hid ((HCN.out hc hft).trans (wY (l:=⟨r,lhs,lqs⟩) h20));have HAX:=hid (HXN.out _ _ HE.out);go_wp2_with fail
     refine(jD (Y ⟨xb',0,O⟩) lhs.length ch t jm lhs _ h3 hszh HNM.out HJI.out).mono ?_;rintro e w5⟨rfl,hw5⟩;obtain rfl:U0=w5:=hw5.symm;rw[hft];have hRx:=hRU;have BWx:=BWU;obtain⟨⟨x0,x1,x2,x3⟩,ff0,ff1,ff2,ff3⟩:=iO hRx;have lrx:=aD x0;go_wp2;exact Ae (v:=U #[I J 2,X F',Z O 0 0,Z O 0 0]) (by simp[results,Tryz.results181,go_sem,x0,x1,x2,x3]) rfl ⟨O,0,0,by rw[HAX.out],by rw[HAX.out];exact⟨[],OwnK.nil _ _ _⟩,(BWx.setCell (p:=⟨w.heap.size,0,O⟩) z' _|>.setCell (p:=⟨w.heap.size,1,O⟩) z' _|>.setCell (p:=⟨w.heap.size,2,O⟩) z' _|>.setCell (p:=⟨w.heap.size,3,O⟩) z' _)⟩
    .have HE:=hid ((HCN.out hc hft).trans (wZ (l:=⟨r,lhs,lqs⟩) h20));have HAX:=hid (HXO.out _ _ HE.out);have HLX:=hid (HLS.out _ HE.out);simp only at HLX;go_wp2_with fail
     refine(jD (Y ⟨xb',0,O⟩) lhs.length ch t jm lhs _ h3 hszh HNM.out HJI.out).mono ?_;rintro e w5⟨rfl,hw5⟩;obtain rfl:U0=w5:=hw5.symm;rw[hft];go_wp2_with fail
     refine(bE0 t jm B1 o pl (Y ⟨xb',0,O⟩) lhs.length ch aq lqs.length cq lhs lqs _ u1 u2 h3 o2 hszh hszq).mono ?_;rintro e w7⟨a7,c7,rfl,own7,b7⟩;have d2:=keep_cell b7 u2;have g2:=((dH b7).2 o (pl*3+2) ob2).trans f2;have lo7:=aD d2;have hlen:(lqs.take (dB lhs lqs)++([⟨t,jm⟩]:List Hold)++lqs.drop (dB lhs lqs)).length=lqs.length+1:=by have:=uQ lhs lqs;simp;omega
     have hf:∀g∈blks (Z (Y ⟨xb',0,O⟩) lhs.length ch,Z a7 (lqs.length+1) c7),g∈blks (Z (Y ⟨xb',0,O⟩) lhs.length ch,Z aq lqs.length cq)\/U0.heap.size<=g:=by
      intro g hg;simp only[blks,Aj,Ee]at hg⊢;rcases hg with hg|hg
      .exact .inl (.inl hg)
      .exact .inr (aH own7 g hg).1
     have ownx:=ownU.swap (j:=2) (z:=Z a7 (lqs.length+1) c7) hp (mI b7 O) (fun g hg=>by cases hg) (l:=⟨r,lhs,lqs.take (dB lhs lqs)++[⟨t,jm⟩]++lqs.drop (dB lhs lqs)⟩) hr0.out.symm (aG o1 b7) (by simp only[hlen];exact aQ own7 hBU) (fun g h1 h2=>by have:=(aH o1 g h1).2;have:=(aH own7 g h2).1;omega) hf (.inr ⟨rfl,rfl,rfl⟩);rw[<-HLX.out]at ownx;have hst:=(ownU.below b7).row.stored (pl*3+2) (Z a7 (lqs.length+1) c7);have mv:=((aE5 (v:=Z (Y ⟨o,0,O⟩) m3 c3) (vs':=vs3.set pl (Z (Y ⟨xb',0,O⟩) lhs.length ch,Z a7 (lqs.length+1) c7)) hp rfl (cC (mI b7 (Y o)) hst.2) (fun g hg=>by cases hg;simp[Value.ownBlock]) hf).below ownU hBU)
     have hRx:=iK mv lz hRU;have BWx:=BWU.trans (mv.mono (by omega));clear own7 hf hst mv hlen;obtain⟨⟨x0,x1,x2,x3⟩,ff0,ff1,ff2,ff3⟩:=iO hRx;have lrx:=aD x0;have OX:=hid ownx;clear ownx;go_wp2;exact Ae (v:=U #[I J 0,X F',Z O 0 0,Z (Y ⟨o,0,O⟩) m3 c3]) (by simp[results,Tryz.results181,go_sem,x0,x1,x2,x3]) rfl ⟨_,_,_,by rw[HAX.out],by rw[HAX.out];exact⟨_,((((OX.out.setLow hwl _ _).setLow hwl _ _).setLow hwl _ _).setLow hwl _ _).base (by omega)⟩,(BWx.setCell (p:=⟨w.heap.size,0,O⟩) z' _|>.setCell (p:=⟨w.heap.size,1,O⟩) z' _|>.setCell (p:=⟨w.heap.size,2,O⟩) z' _|>.setCell (p:=⟨w.heap.size,3,O⟩) z' _)⟩
   .have HE:=hid ((HCP.out hc hft).trans (by rw[HPY.out]));have HAX:=hid (HXO.out _ _ HE.out);have HLX:=hid (HLS.out _ HE.out);simp only at HLX;go_wp2_with fail
    refine(jD (Y ⟨xb',0,O⟩) lhs.length ch t jm lhs _ h3 hszh HNM.out HJI.out).mono ?_;rintro e w5⟨rfl,hw5⟩;obtain rfl:U0=w5:=hw5.symm;rw[hft];have hd1:=o1.frozenAt (j*2+1);have hst:=o1.stored (j*2+1) (I J jm);rw[uX lhs j ⟨t,jm⟩ hj HJT.out]at hst;have ownx:=ownU.turn hp hst.2 (fun g hg=>by cases hg;simp[blks,Value.ownBlock]) ⟨r,lhs.set j ⟨t,jm⟩,lqs⟩ hr0.out.symm (by simp only[List.length_set];exact hst.1) (aN o2 hst.2 (fun g hg e=>by cases e;exact ne xb' rfl hg));rw[<-HLX.out]at ownx;have mv:Below B1 U0 (U0.setCell ⟨xb',j*2+1,O⟩ (I J jm)):=((Aa B1 U0).mono z').grown hst.2 hBU (fun g hg=>by cases hg;exact hxb.1);have hRx:=iK mv lz hRU;have BWx:=BWU.trans (mv.mono (by omega));clear hst mv;obtain⟨⟨x0,x1,x2,x3⟩,ff0,ff1,ff2,ff3⟩:=iO hRx;have lrx:=aD x0;have OX:=hid ownx;clear ownx;go_wp2;exact Ae (v:=U #[I J 0,X A',Z O 0 0,Z (Y ⟨o,0,O⟩) m3 c3]) (by simp[results,Tryz.results181,go_sem,x0,x1,x2,x3]) rfl ⟨_,_,_,by rw[HAX.out],by rw[HAX.out];exact⟨_,((((OX.out.setLow hwl _ _).setLow hwl _ _).setLow hwl _ _).setLow hwl _ _).base (by omega)⟩,(BWx.setCell (p:=⟨w.heap.size,0,O⟩) z' _|>.setCell (p:=⟨w.heap.size,1,O⟩) z' _|>.setCell (p:=⟨w.heap.size,2,O⟩) z' _|>.setCell (p:=⟨w.heap.size,3,O⟩) z' _)⟩
  .rw[hc]at HTB;have HE:=hid (HCV.out hc);have HAX:=hid (HXO.out _ _ HE.out);have HLX:=hid (HLS.out _ HE.out);simp only at HLX;rw[HSM.out]at HLX;go_wp2_with fail
   refine(sM held mode _ HHM.out HM.out).mono ?_;rintro e w5⟨rfl,hw5⟩;obtain rfl:U0=w5:=hw5.symm;rw[HTB.out];have ownx:=ownU;rw[<-HLX.out]at ownx;have hRx:=hRU;have BWx:=BWU;obtain⟨⟨x0,x1,x2,x3⟩,ff0,ff1,ff2,ff3⟩:=iO hRx;have lrx:=aD x0;have OX:=hid ownx;clear ownx;go_wp2;exact Ae (v:=U #[I J 0,X A',Z O 0 0,Z (Y ⟨o,0,O⟩) m3 c3]) (by simp[results,Tryz.results181,go_sem,x0,x1,x2,x3]) rfl ⟨_,_,_,by rw[HAX.out],by rw[HAX.out];exact⟨_,((((OX.out.setLow hwl _ _).setLow hwl _ _).setLow hwl _ _).setLow hwl _ _).base (by omega)⟩,(BWx.setCell (p:=⟨w.heap.size,0,O⟩) z' _|>.setCell (p:=⟨w.heap.size,1,O⟩) z' _|>.setCell (p:=⟨w.heap.size,2,O⟩) z' _|>.setCell (p:=⟨w.heap.size,3,O⟩) z' _)⟩
theorem aD1(b:Nat)(s:EgS)(e:Eng)(t:Int)(w:World)(h:EgP w b s e):
  Calls prog 149 #[.pointer (Y ⟨b,0,O⟩),I J t] w fun r w'=>(∃c,r=R' (I J c)/\(c=0->Ch.Good e/\isT e t=A'))/\V' w w':=by
 go_enter func149,ntmps149
 go_wp2_with fail
 refine(aD2 b s e _ h).mono ?_;rintro r1 w1⟨⟨c,rfl,hc⟩,hB⟩;have HC:=hid hc;clear hc;cases hcc:(c !=0)
 .have HG:Hid (Ch.Good e):=HC.out (by simpa using hcc);clear HC;go_wp2_with fail
  refine(oP b s e t _ (h.below hB)).mono ?_;rintro r2 w2⟨rfl,hw2⟩;obtain rfl:=hw2.symm;cases hi:isT e t
  .go_wp2;go_ret;exact⟨⟨3,rfl,fun h=>absurd h (by decide)⟩,hB⟩
  .go_wp2;go_ret;exact⟨⟨0,rfl,fun _=>⟨HG.out,hi⟩⟩,hB⟩
 .go_wp2;go_ret;exact⟨⟨c,rfl,fun h0=>absurd h0 (by simpa using hcc)⟩,hB⟩
def eA(c:Int):Array Value:=#[I J c,X F',I J 0,Z O 0 0,Z O 0 0,Z O 0 0,Z O 0 0,Z O 0 0,Z O 0 0,Z O 0 0,Z O 0 0,Z O 0 0,X F',Z O 0 0,Z O 0 0]
theorem fH(c:Int)(w:World):
  Calls prog 102 #[I J c] w fun r w'=>r=R' (U (eA c))/\V' w w':=by
 go_enter func102,ntmps102
 go_wp2;exact Ae (v:=U (eA c)) (As Tryz.results102 _ _ w.heap.size 112 (eA c) (0,0) _ rfl (aP rfl) underlying112 rfl (by kernel_rfl)) rfl ⟨rfl,(Aa _ _).alloc z' _⟩
def dP8(s:EgS)(w:World)(r:Ending)(w':World):Prop:=(∃x,r=R' (X x)/\(x=F'->s.an<=199))/\V' w w'
theorem aK5(k p q v tx:Int)(i:Nat)(b:Nat)(s:EgS)(e:Eng)(w:World)(h:EgP w b s e)(hi:i<s.tn)(htx:tx=(i:Int)+1):
  Calls prog 150 #[.pointer (Y ⟨b,0,O⟩),I J tx,U #[I J k,I J p,I J q,I J v]] w (dP8 s w):=by
 have hn4:=h.2.n4;have hw:IntKind.i64.wrap (tx-1)=(i:Int):=by rw[htx,show(i:Int)+1-1=(i:Int)by omega];exact Br _ ⟨by omega,by omega⟩
 clear htx;have hbA:V' w (w.alloc (M #[I J k,I J p,I J q,I J v] 54)):=(Aa _ _).alloc z' _;have o0:(w.alloc (M #[I J k,I J p,I J q,I J v] 54)).heap[w.heap.size]? =Y (M #[I J k,I J p,I J q,I J v] 54 (0,0)):=aP rfl;have hA:=h.below hbA;have hbl:=hA.lt;have c0:(w.alloc (M #[I J k,I J p,I J q,I J v] 54)).cell? ⟨w.heap.size,0,O⟩=Y (I J k):=Ai _ _ 0 _ _ _ o0;obtain⟨_,_,_,x3,_,_,_,_,_,x9⟩:=hA.all;obtain⟨g,off,au,nu,cu,hta,_,_,_,t3,_,_,_,_,_,hnu⟩:=hA.2.tx.txn hi;rw[hta]at x3;clear hta o0;have hg:=aD t3;have hol:=aD c0;go_enter func150,ntmps150
 by_cases ha:200<=s.an
 .have ha':(200:Int)<=(s.an:Int):=by omega
  go_wp2;go_ret;exact⟨⟨A',rfl,fun h=>by cases h⟩,hbA⟩
 have ha':¬(200:Int)<=(s.an:Int):=by omega
 have hq:s.an<=199:=by omega
 have HQ:=hid hq;clear ha hq;go_upto_region 3 with fail
 generalize w.alloc (M #[I J k,I J p,I J q,I J v] 54)=wA at*;by_cases hk:k=2\/k=3
 .by_cases hu:40<=nu
  .have hu':(40:Int)<=(nu:Int):=by omega
   rcases hk with rfl|rfl;all_goals
    go_wp2;go_ret;exact⟨⟨A',rfl,fun h=>by cases h⟩,hbA⟩
  .have hu':¬(40:Int)<=(nu:Int):=by omega
   rcases hk with rfl|rfl;all_goals
    go_wp2_with fail
    refine(yB b s e _ hA).mono ?_;rintro r w1⟨rfl,hw1⟩;go_wp2;go_ret;exact⟨⟨_,rfl,fun _=>HQ.out⟩,hbA.trans (hw1.mono hbA.size)⟩
 .have k2:(k==2)=F':=by simp;omega
  have k3:(k==3)=F':=by simp;omega
  go_wp2;go_ret;exact⟨⟨F',rfl,fun _=>HQ.out⟩,hbA⟩
end Go.Proofs.YtpbbokalojdooaaGreat
