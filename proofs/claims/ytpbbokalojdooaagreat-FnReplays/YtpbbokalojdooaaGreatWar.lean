import Derived.Test.YtpbbokalojdooaaGreatWan
namespace Go.Proofs.YtpbbokalojdooaaGreat
open Go.RowKit Ch Go.Proofs.Tryz
set_option linter.unusedSimpArgs false
set_option linter.unusedVariables false
set_option maxRecDepth 20000
set_option maxHeartbeats 8000000
open Value renaming int->I,slice->Z,bool->X,agg->U
open IntKind renaming i64->J
open Option renaming none->O,some->Y
open Obj renaming cells->M
open Ending renaming returned->R'
open Bool renaming true->A',false->F'
variable {ls:List Lock} {i:Nat} {p:Nat->Bool}
section
open Go.Maps
theorem Tryz.info232:(prog.info? 232).map (fun i=>(i.zero,i.size,i.bytes))=Y (Y (U #[I J 0,I J 0]),2,16):=by kernel_rfl
theorem yZ(h:∀x,x<(aI ls i).qs.length->((List.range i).any fun j=>aV (aI ls j).qs ((aI ls i).qs.getD x Hold.zero).t)=F'):gO ls i=F':=by unfold gO;rw[Ed];intro q hq;obtain⟨x,hx,rfl⟩:=Co hq;have:=h x hx;simpa[List.getD,hx]using this
theorem qN{n:Nat}(h:∀i,i<n->p i=F'):(List.range n).any p=F':=by rw[Ed];intro x hx;rw[h x (by simpa using hx)];simp
theorem bB7{x j:Nat}(hi:i<ls.length)(hx:x<(aI ls i).qs.length)(hj:j<i)(h:aV (aI ls j).qs ((aI ls i).qs.getD x Hold.zero).t=A'):(List.range ls.length).any (gO ls)=A':=by rw[Ct];refine⟨i,by simpa using hi,?_⟩;unfold gO;refine aV5 Hold.zero hx ?_;rw[Ct];exact⟨j,by simpa using hj,h⟩
theorem bP7(a:Option Addr)(n cap:Nat)(ls:List Lock)(w:World)(h:LkAt w a n ls)(hs:dS ls<=1048576):
  Calls prog 143 #[Z a n cap] w fun e w'=>e=R' (I J (aT ls))/\V' w w':=by
 have HL:=h.len;have hn:n<=1048576:=by unfold dS at hs;have:=HL.out;omega
 go_enter func143,ntmps143
 go_wp2;go_loopw [3] (fun i wr=>∃k:Nat,k<=n/\i=I J k/\Hid (aT ls=pG ls (n-k) k)/\Hid (∀j,j<k->jH ls j=0)/\V' w wr) (fun i _=>n-(intOf i).toNat)
 case atStart=>exact⟨0,Ad _,rfl,(by have:=HL.out;subst this;rfl),(fun j hj=>by omega),Aa _ _⟩
 case round=>
  obtain⟨k,hk,rfl,HR,HA,hB⟩:=hrel;by_cases hlt:k<n
  .have HSz:=hid (lF hs k);have HBad:=hid (fun hb=>HR.out.trans (bW7 (ls:=ls) hlt hb));have HNext:=hid (fun hb=>HR.out.trans (bJ6 (ls:=ls) hlt hb));have HRes:=hid (fun hb=>aN5 (ls:=ls) (k:=k) hb);have HLow:=hid (fun hb h0 h1=>aN4 (ls:=ls) (k:=k) hb h0 h1);have HOwn:=hid (fun hb h1=>yP (ls:=ls) (k:=k) hb h1);obtain⟨b,off,ah,nh,ch,aq,nq,cq,rfl,hl⟩:=(h.below hB).lock hlt;have hH4:=hl.2.2.2.1.hlen;have hQ4:=hl.2.2.2.2.1.hlen;have hnh:nh<=1048576:=by have:=HSz.out;have:=hH4.out;omega
   have hnq:nq<=1048576:=by have:=HSz.out;have:=hQ4.out;omega
   have c0:=hl.1;have hbl:=aD c0;have IR:=fun W=>cW8 (aI ls k).r W;cases hr:inB (aI ls k).r 0 100;all_goals rw[hr]at IR
   .have H3:=hid (HRes.out hr);generalize(aI ls k).r=rk at*;go_wp2_with fail
    refine(IR _).mono ?_;rintro e w1⟨rfl,hw1⟩;obtain rfl:=hw1.symm;go_wp2;go_ret;exact⟨cH (by rw[HBad.out (by rw[H3.out];rfl),H3.out]),hB⟩
   .by_cases hlow:0<k/\(aI ls k).r<=(aI ls (k-1)).r
    .obtain⟨j,rfl⟩:∃j,k=j+1:=⟨k-1,by omega⟩
     have H3:=hid (HLow.out hr hlow.1 hlow.2);have hle:=hlow.2;rw[show j+1-1=j from rfl]at hle;obtain⟨b',off',_,_,_,_,_,_,hbo,hj⟩:=(h.below hB).lock (show j<n by omega);simp only[Af,Ap,Cn]at hbo;obtain⟨rfl,rfl⟩:=hbo;have p0:=hj.1;clear hj hlow;generalize(aI ls (j+1)).r=rk at*;generalize(aI ls j).r=rj at*;have hd:decide ((0:Int)<((j+1:Nat):Int))=A':=by simp
     have hwj:IntKind.i64.wrap (j:Int)=(j:Int):=Br _ ⟨by omega,by omega⟩;have hj0:(0:Int)<=(j:Int):=by omega
     have hjn:(j:Int)<(n:Int):=by omega
     have hj1:(0:Int)<=(j:Int)+1:=by omega
     have hj2:(j:Int)+1<(n:Int):=by omega
     go_wp2_with fail
     refine(IR _).mono ?_;rintro e w1⟨rfl,hw1⟩;obtain rfl:=hw1.symm;go_wp2_with fail
     refine R0 (fun W'=>W'.cell? ⟨b,off+(j+1)*3,O⟩=Y (I J rk)/\W'.cell? ⟨b,off+j*3,O⟩=Y (I J rj)/\V' w W') (⟨c0,p0,hB.drew⟩) (fun hH=>?_);refine R5 0 1 2 3 4 ?_;refine R5 5 6 7 8 9 ?_;refine R5 10 11 12 13 14 ?_;refine R1 15 ?_;refine R7 ?_;go_wp2;go_ret;exact⟨cH (by rw[HBad.out (by rw[H3.out];rfl),H3.out]),hH.2.2⟩
    .have H3:=hid (HOwn.out hr hlow);have IL:=fun W hW=>cG7 b (off+k*3) ah nh ch aq nq cq (aI ls k) W hW hnh hnq;rw[<-H3.out]at IL;cases hf:(jH ls k !=0)
     .have HN:=hid (HNext.out hf);have HZ:Hid (jH ls k=0):=by show _=_;simpa using hf
      have HA':Hid (∀j,j<k+1->jH ls j=0):=by
       intro j hj;by_cases e:j=k
       .subst e;exact HZ.out
       .exact HA.out j (by omega)
      rw[HZ.out]at IL;cases k with
      |zero=>
       have hd:decide ((0:Int)<((0:Nat):Int))=F':=by simp
       simp only[Ep,Nat.add_zero]at c0 IL hl;generalize(aI ls 0).r=rk at*;go_wp2_with fail
       refine(IR _).mono ?_;rintro e w1⟨rfl,hw1⟩;obtain rfl:=hw1.symm;go_wp2_with fail
       refine R0 (fun W'=>V' w W') (hB.drew) (fun hH=>?_);refine R8 0 (h:=R8 1 (h:=R8 2 (h:=R9 3 (h:=R9 4 (h:=J3 ?_)))));refine R9 5 (h:=R9 6 (h:=R9 7 (h:=R9 8 (h:=R9 9 (h:=J3 ?_)))));refine R9 10 (h:=R9 11 (h:=R9 12 (h:=R9 13 (h:=R9 14 (h:=J3 ?_)))));refine R1 15 ?_;refine R7 ?_;go_wp2_with fail
       refine(IL _ (hl.below (Aa _ _).drew)).mono ?_;rintro e w2⟨rfl,b2⟩;go_wp2;go_roundw;case rel=>exact⟨1,by omega,by go_num,HN.out,HA'.out,hH.trans (b2.mono hH.size)⟩
       case measure=>simp[intOf];omega
      |succ j=>
       have hle:¬(aI ls (j+1)).r<=(aI ls j).r:=fun h=>hlow ⟨by omega,h⟩;obtain⟨b',off',_,_,_,_,_,_,hbo,hj⟩:=(h.below hB).lock (show j<n by omega);simp only[Af,Ap,Cn]at hbo;obtain⟨rfl,rfl⟩:=hbo;have p0:=hj.1;clear hj hlow;generalize(aI ls (j+1)).r=rk at*;generalize(aI ls j).r=rj at*;have hd:decide ((0:Int)<((j+1:Nat):Int))=A':=by simp
       have hwj:IntKind.i64.wrap (j:Int)=(j:Int):=Br _ ⟨by omega,by omega⟩;have hj0:(0:Int)<=(j:Int):=by omega
       have hjn:(j:Int)<(n:Int):=by omega
       have hj1:(0:Int)<=(j:Int)+1:=by omega
       have hj2:(j:Int)+1<(n:Int):=by omega
       go_wp2_with fail
       refine(IR _).mono ?_;rintro e w1⟨rfl,hw1⟩;obtain rfl:=hw1.symm;go_wp2_with fail
       refine R0 (fun W'=>W'.cell? ⟨b,off+(j+1)*3,O⟩=Y (I J rk)/\W'.cell? ⟨b,off+j*3,O⟩=Y (I J rj)/\V' w W') (⟨c0,p0,hB.drew⟩) (fun hH=>?_);refine R5 0 1 2 3 4 ?_;refine R5 5 6 7 8 9 ?_;refine R5 10 11 12 13 14 ?_;refine R1 15 ?_;refine R7 ?_;go_wp2_with fail
       refine(IL _ (hl.below (Aa _ _).drew)).mono ?_;rintro e w2⟨rfl,b2⟩;go_wp2;go_roundw;case rel=>exact⟨j+1+1,by omega,by go_num,HN.out,HA'.out,hH.2.2.trans (b2.mono hH.2.2.size)⟩
       case measure=>simp[intOf];omega
     .have HN:=hid (HBad.out hf);obtain⟨cf,HCF⟩:∃cf,Hid (jH ls k=cf):=⟨_,rfl⟩
      rw[HCF.out]at hf IL;have hf0:¬cf=0:=by simpa using hf
      cases k with
      |zero=>
       have hd:decide ((0:Int)<((0:Nat):Int))=F':=by simp
       simp only[Ep,Nat.add_zero]at c0 IL hl;generalize(aI ls 0).r=rk at*;go_wp2_with fail
       refine(IR _).mono ?_;rintro e w1⟨rfl,hw1⟩;obtain rfl:=hw1.symm;go_wp2_with fail
       refine R0 (fun W'=>V' w W') (hB.drew) (fun hH=>?_);refine R8 0 (h:=R8 1 (h:=R8 2 (h:=R9 3 (h:=R9 4 (h:=J3 ?_)))));refine R9 5 (h:=R9 6 (h:=R9 7 (h:=R9 8 (h:=R9 9 (h:=J3 ?_)))));refine R9 10 (h:=R9 11 (h:=R9 12 (h:=R9 13 (h:=R9 14 (h:=J3 ?_)))));refine R1 15 ?_;refine R7 ?_;go_wp2_with fail
       refine(IL _ (hl.below (Aa _ _).drew)).mono ?_;rintro e w2⟨rfl,b2⟩;go_wp2;go_ret;exact⟨cH (by rw[HN.out,HCF.out]),hH.trans (b2.mono hH.size)⟩
      |succ j=>
       have hle:¬(aI ls (j+1)).r<=(aI ls j).r:=fun h=>hlow ⟨by omega,h⟩;obtain⟨b',off',_,_,_,_,_,_,hbo,hj⟩:=(h.below hB).lock (show j<n by omega);simp only[Af,Ap,Cn]at hbo;obtain⟨rfl,rfl⟩:=hbo;have p0:=hj.1;clear hj hlow;generalize(aI ls (j+1)).r=rk at*;generalize(aI ls j).r=rj at*;have hd:decide ((0:Int)<((j+1:Nat):Int))=A':=by simp
       have hwj:IntKind.i64.wrap (j:Int)=(j:Int):=Br _ ⟨by omega,by omega⟩;have hj0:(0:Int)<=(j:Int):=by omega
       have hjn:(j:Int)<(n:Int):=by omega
       have hj1:(0:Int)<=(j:Int)+1:=by omega
       have hj2:(j:Int)+1<(n:Int):=by omega
       go_wp2_with fail
       refine(IR _).mono ?_;rintro e w1⟨rfl,hw1⟩;obtain rfl:=hw1.symm;go_wp2_with fail
       refine R0 (fun W'=>W'.cell? ⟨b,off+(j+1)*3,O⟩=Y (I J rk)/\W'.cell? ⟨b,off+j*3,O⟩=Y (I J rj)/\V' w W') (⟨c0,p0,hB.drew⟩) (fun hH=>?_);refine R5 0 1 2 3 4 ?_;refine R5 5 6 7 8 9 ?_;refine R5 10 11 12 13 14 ?_;refine R1 15 ?_;refine R7 ?_;go_wp2_with fail
       refine(IL _ (hl.below (Aa _ _).drew)).mono ?_;rintro e w2⟨rfl,b2⟩;go_wp2;go_ret;exact⟨cH (by rw[HN.out,HCF.out]),hH.2.2.trans (b2.mono hH.2.2.size)⟩
  .obtain rfl:k=n:=by omega
   have HR2:=hid (HR.out.trans (bW8 rfl));have HAll:Hid (∀i,i<ls.length->dL (aI ls i)=0):=fun i hi=>(iM (HA.out i (by have:=HL.out;omega))).2.2.2;have HX:=hid (aW4 (ls:=ls) (fun i hi=>(fU (HAll.out i hi)).2.2.2.2.2.1));have HY:Hid ((List.range ls.length).any (gO ls)=A'->aT ls=10):=fun hx=>by rw[HR2.out,HX.out,hx];rfl
   have HZ:Hid ((List.range ls.length).any (gO ls)=F'->aT ls=0):=fun hx=>by rw[HR2.out,HX.out,hx];rfl
   clear HR HR2 HX;rename_i w0
   go_wp2;go_loopw [5] (fun i wr=>∃k':Nat,k'<=k/\i=I J k'/\Hid (∀j,j<k'->gO ls j=F')/\V' w wr) (fun i _=>k-(intOf i).toNat)
   case atStart=>exact⟨0,Ad _,rfl,(fun j hj=>by omega),hB⟩
   case round=>
    clear hB;obtain⟨i,hi,rfl,HC,hB⟩:=hrel;by_cases hlti:i<k
    .obtain⟨b,off,ah,nh,ch,aq,nq,cq,rfl,hl⟩:=h.lock hlti;have hil:i<ls.length:=by have:=HL.out;omega
     have c2:=hl.2.2.1;have h4:=hl.2.2.2.2.1;have hQ4:=h4.hlen;have HSz:=hid (lF hs i);have hnq:nq<=1048576:=by have:=HSz.out;have:=hQ4.out;omega
     clear hl;rename_i w1
     go_wp2;go_loopw [6] (fun i2 wr=>∃x:Nat,x<=nq/\i2=I J x/\Hid (∀y,y<x->((List.range i).any fun j=>aV (aI ls j).qs ((aI ls i).qs.getD y Hold.zero).t)=F')/\V' w wr) (fun i2 _=>nq-(intOf i2).toNat)
     case atStart=>exact⟨0,Ad _,rfl,(fun j hj=>by omega),hB⟩
     case round=>
      clear hB;obtain⟨x,hx,rfl,HD,hB⟩:=hrel;have c2:=keep_cell hB c2;have hbl:=aD c2;by_cases hltx:x<nq
      .have hxl:x<(aI ls i).qs.length:=by have:=hQ4.out;omega
       have HHit:=hid (fun j hj he=>HY.out (bB7 (j:=j) hil hxl hj he));have HND:=hid (fun he=>qW (p:=fun y=>(List.range i).any fun j=>aV (aI ls j).qs ((aI ls i).qs.getD y Hold.zero).t) HD.out he);obtain⟨qb,qo,rfl,q0,_⟩:=h4.hold hltx;clear HD;generalize((aI ls i).qs.getD x Hold.zero).t=rt at*;rename_i w2
       go_wp2;go_loopw [7] (fun i3 wr=>∃j:Nat,j<=i/\i3=I J j/\Hid (∀y,y<j->aV (aI ls y).qs rt=F')/\V' w wr) (fun i3 _=>i-(intOf i3).toNat)
       case atStart=>exact⟨0,Ad _,rfl,(fun j hj=>by omega),hB⟩
       case round=>
        clear hB c2;obtain⟨j,hj,rfl,HE,hB⟩:=hrel;by_cases hltj:j<i
        .have HNE:=hid (fun he=>qW (p:=fun y=>aV (aI ls y).qs rt) HE.out he);obtain⟨b',off',_,_,_,aj,nj,cj,hbo,hlj⟩:=(h.below hB).lock (show j<k by omega);simp only[Af,Ap,Cn]at hbo;obtain⟨rfl,rfl⟩:=hbo;have g2:=hlj.2.2.1;have g4:=hlj.2.2.2.2.1;have hJ4:=g4.hlen;have HSj:=hid (lF hs j);have hnj:nj<=1048576:=by have:=HSj.out;have:=hJ4.out;omega
         obtain⟨b',off',_,_,_,_,_,_,hbo,hli⟩:=h.lock hlti;simp only[Af,Ap,Cn]at hbo;obtain⟨rfl,rfl⟩:=hbo;clear hlj hli HE;have hjk:j<k:=by omega
         have c2:=keep_cell hB ‹w.cell? ⟨b,off+i*3+2,O⟩=Y (Z (Y ⟨qb,qo,O⟩) nq cq)›;have q0:=keep_cell hB q0;rcases eI (aI ls j).qs rt with⟨he,HAT,_⟩|⟨p,hp,HAT,he,_⟩
         .have HN:=hid he;clear he;go_wp2_with fail
          refine R0 (fun W'=>W'.cell? ⟨b,off+j*3+2,O⟩=Y (Z aj nj cj)/\W'.cell? ⟨b,off+i*3+2,O⟩=Y (Z (Y ⟨qb,qo,O⟩) nq cq)/\W'.cell? ⟨qb,qo+x*2,O⟩=Y (I J rt)/\CellsAt W' aj (nj*2) (hcells (aI ls j).qs)/\V' w W') (⟨g2,c2,q0,g4.below (Aa _ _).drew,hB.drew⟩) (fun hH=>?_);refine R5 0 1 2 3 4 ?_;refine R5 5 6 7 8 9 ?_;refine R4 10 11 12 13 ?_;refine R6 14 (fun K hK=>?_);go_simp;refine(fZ aj nj cj rt (aI ls j).qs _ hH.2.2.2.1 hnj).mono ?_;rintro e w2⟨rfl,rfl⟩;rw[HAT];go_wp2_with fail
          refine hK.out _ _ ?_ (fun hH=>?_)
          .exact hH
          clear hK K;refine R1 15 ?_;refine R7 ?_;go_wp2;go_roundw;case rel=>exact⟨j+1,by omega,by go_num,HNE.out HN.out,hH.2.2.2.2⟩
          case measure=>simp[intOf];omega
         .have HN:=hid he;clear he;go_wp2_with fail
          refine R0 (fun W'=>W'.cell? ⟨b,off+j*3+2,O⟩=Y (Z aj nj cj)/\W'.cell? ⟨b,off+i*3+2,O⟩=Y (Z (Y ⟨qb,qo,O⟩) nq cq)/\W'.cell? ⟨qb,qo+x*2,O⟩=Y (I J rt)/\CellsAt W' aj (nj*2) (hcells (aI ls j).qs)/\V' w W') (⟨g2,c2,q0,g4.below (Aa _ _).drew,hB.drew⟩) (fun hH=>?_);refine R5 0 1 2 3 4 ?_;refine R5 5 6 7 8 9 ?_;refine R4 10 11 12 13 ?_;refine R6 14 (fun K hK=>?_);go_simp;refine E' (fZ aj nj cj rt (aI ls j).qs _ hH.2.2.2.1 hnj) ?_;rw[HAT];go_wp2_with fail
          refine hK.out _ _ ?_ (fun hH=>?_)
          .exact hH
          clear hK K;refine R1 15 ?_;refine R7 ?_;go_wp2;go_ret;exact⟨cH (HHit.out j hltj HN.out).symm,hH.2.2.2.2⟩
        .obtain rfl:j=i:=by omega
         go_wp2;go_roundw;case rel=>exact⟨x+1,by omega,by go_num,HND.out (qN HE.out),hB⟩
         case measure=>simp[intOf];omega
      .obtain rfl:x=nq:=by omega
       go_wp2;go_roundw;case rel=>exact⟨i+1,by omega,by go_num,qW HC.out (yZ (by have:=hQ4.out;rw[<-this];exact HD.out)),hB⟩
       case measure=>simp[intOf];omega
    .obtain rfl:i=k:=by omega
     go_wp2;go_ret;exact⟨cH (HZ.out (qN (by have:=HL.out;rw[<-this];exact HC.out))).symm,hB⟩
end
theorem cW6(b off n cap:Nat)(zs:List Int)(w:World)(h:CellsAt w (Y ⟨b,off,O⟩) n (bts zs))(hb:IsB zs)(hn:n<=1048576)(_hcap:n<=cap)(h5:5<=n)(h11:n<11)(hset:lL (zs.getD 0 0)=A'):
  Calls prog 72 #[Z (Y ⟨b,off,O⟩) n cap] w fun e w'=>e=R' (.tuple #[recV (dJ zs).1,I J (dJ zs).2])/\V' w w':=by
 have HL:=h.len;have h5':¬(n:Int)<5:=by omega
 have i0:(0:Int)<(n:Int):=by omega
 have i0n:0<n:=by omega
 obtain⟨b',off',hbo,hc0⟩:=h.at (show 0<n by omega);simp only[Af,Ap,Cn]at hbo;obtain⟨rfl,rfl⟩:=hbo;rw[Nat.add_zero]at hc0;obtain⟨p0,q0⟩:=hb 0;obtain⟨p1,q1⟩:=hb 1;obtain⟨p2,q2⟩:=hb 2;have tk1:=fun(W:World) (hW:Below (w.heap.size+1) (w.alloc (M #[I J 0,I J 0,I J 0,X F',I J 0,X F',I J 0] 79)) W)=>vS (Y ⟨b,off,O⟩) n cap 1 zs W (h.below (cO hW)) hb (by omega) (by omega);simp only[Nat.reduceAdd,Int.reduceNeg,Int.cast_ofNat_Int]at tk1;have HV:Hid (dJ zs=(Rec.zero,0)):=iR (fun hh=>by
  have e1:=hh.2.length_le;have e2:=Rec.bytes_len (Ch.unp zs);have e3:(Ch.unp zs).len=11:=by unfold Ch.unp;rw[if_pos hset];simp only[Rec.len];rw[if_pos hset]
  have e4:=HL.out;omega)
 have i11:(n:Int)<11:=by omega
 generalize zs.getD 0 0=d0 at*;generalize zs.getD 1 0=d1 at*;generalize zs.getD 2 0=d2 at*;have hw0:IntKind.i64.wrap d0=d0:=Br d0 ⟨by omega,by omega⟩;go_enter func72,ntmps72
 go_upto_region 3 with fail
 go_cut [4] (fun s wx=>s= .pointer (Y ⟨w.heap.size+1,0,O⟩)/\wx.heap[w.heap.size+1]? =Y (M #[I J d0,I J (d1*256+d2),I J 0,X F',I J 0,X F',I J 0] 79 (0,0))/\Below (w.heap.size+1) (w.alloc (M #[I J 0,I J 0,I J 0,X F',I J 0,X F',I J 0] 79)) wx/\wx.heap.size=w.heap.size+2)
 case first=>
  have HS:Hid (∀W',Below (w.heap.size+1) (w.alloc (M #[I J 0,I J 0,I J 0,X F',I J 0,X F',I J 0] 79)) W'->W'.cell? ⟨b,off,O⟩=Y (I .u8 d0)/\Below (w.heap.size+1) (w.alloc (M #[I J 0,I J 0,I J 0,X F',I J 0,X F',I J 0] 79)) W'):=fun W' hb=>⟨(keep_cell (cO hb) hc0),hb⟩
  refine R0 (fun W'=>W'.cell? ⟨b,off,O⟩=Y (I .u8 d0)/\Below (w.heap.size+1) (w.alloc (M #[I J 0,I J 0,I J 0,X F',I J 0,X F',I J 0] 79)) W') (HS.out _ (Aa _ _).drew) (fun hH=>?_);refine R5 0 1 2 3 4 ?_;refine Dr (rs:=[5,7]) (by kernel_rfl) (by simp) ?_;refine Bi rfl (fun K hK=>?_) (Bi rfl (fun K hK=>?_) Dk);focus
   go_simp;refine(tk1 _ hH.2).mono ?_;rintro e w1⟨rfl,hh1,bq⟩;have bq:=hH.2.trans (bq.mono (by simp));go_wp2_with fail
   refine hK.out _ _ ?_ (fun hH=>?_)
   .exact HS.out _ bq
   clear hK K;refine R1 6 ?_;refine R6 7 (fun K hK=>?_);go_simp;refine hK.out _ _ ?_ (fun hH=>?_)
   .exact HS.out _ (hH.2.alloc (by first|(simp;done)|(have:=hH.2.size;simp at this;omega)) _)
   clear hK K;have zq:=bq.size;simp at zq;have hsq:w1.heap.size=w.heap.size+1:=by rw[hh1];simp
   refine R6 8 (fun K hK=>?_);go_simp;refine hK.out _ _ ?_ (fun hH=>?_)
   .exact HS.out _ (bq.alloc zq _)
   clear hK K;refine R7 ?_;go_wp2_with fail
   go_meet;exact⟨rfl,aP hsq.symm,bq.alloc zq _,by simp[hsq]⟩
  rotate_left;focus
   go_simp;refine hK.out _ _ ?_ (fun hH=>?_)
   .exact HS.out _ (hH.2.alloc (by first|(simp;done)|(have:=hH.2.size;simp at this;omega)) _)
   clear hK K;refine R6 5 (fun K hK=>?_);go_simp;refine(tk1 _ hH.2).mono ?_;rintro e w1⟨rfl,hh1,bq⟩;have bq:=hH.2.trans (bq.mono (by simp));go_wp2_with fail
   refine hK.out _ _ ?_ (fun hH=>?_)
   .exact HS.out _ bq
   clear hK K;refine R1 6 ?_;have hR:w1.heap[w.heap.size+1]? =Y (M #[I J 0,I J 0,I J 0,X F',I J 0,X F',I J 0] 79 (0,0)):=by rw[hh1];exact aP (by simp)
   have hsq:w1.heap.size=w.heap.size+2:=by rw[hh1];simp
   obtain⟨x0,x1,x2,x3,x4,x5,x6⟩:=aH1 hR;obtain⟨f0,f1,f2,f3,f4,f5,f6⟩:=bN4 hR;refine R6 8 (fun K hK=>?_);go_simp;refine hK.out _ _ ?_ (fun hH=>?_)
   .exact HS.out _ (nU bq (by omega) _ _ _ _ _ _ _)
   clear hK K;clear x0 x1 x2 x3 x4 x5 x6 f0 f1 f2 f3 f4 f5 f6;refine R7 ?_;go_wp2_with fail
   go_meet;exact⟨rfl,aP2 hR _ _ _ _ _ _ _,nU bq (by omega) _ _ _ _ _ _ _,by simp[hsq]⟩
  rotate_left
 case rest=>
 obtain⟨rfl,hR,hB,hsz⟩:=hcut;clear tk1 hc0;obtain⟨x0,x1,x2,x3,x4,x5,x6⟩:=aH1 hR;have bF':Below (w.alloc (M #[I J 0,I J 0,I J 0,X F',I J 0,X F',I J 0] 79)).heap.size (w.alloc (M #[I J 0,I J 0,I J 0,X F',I J 0,X F',I J 0] 79)) wc:=by simpa using hB
 obtain⟨y0,y1,y2,y3,y4,y5,y6⟩:=bZ4 bF';have g0:=hB.frozen (p:=⟨w.heap.size,0,O⟩) (by simp);have g1:=hB.frozen (p:=⟨w.heap.size,1,O⟩) (by simp);have g2:=hB.frozen (p:=⟨w.heap.size,2,O⟩) (by simp);have g3:=hB.frozen (p:=⟨w.heap.size,3,O⟩) (by simp);have g4:=hB.frozen (p:=⟨w.heap.size,4,O⟩) (by simp);have g5:=hB.frozen (p:=⟨w.heap.size,5,O⟩) (by simp);have g6:=hB.frozen (p:=⟨w.heap.size,6,O⟩) (by simp);simp[go_sem]at g0 g1 g2 g3 g4 g5 g6;have bE:=cO hB;have zE:=aD y0;clear hB bF' hR;go_wp2_with(go_at_call 112;refine(nX _ _).mono ?_;rintro e w1⟨rfl,hw1⟩;subst w1)
 rw[HV.out];refine Ae (v:=.tuple #[U #[I J 0,I J 0,I J 0,X F',I J 0,X F',I J 0],I J 0]) (by simp[results,Tryz.results72,go_sem,zE,y0,y1,y2,y3,y4,y5,y6]) rfl ⟨rfl,?_⟩;repeat(first|with_reducible exact bE|with_reducible refine Dw ?_|with_reducible refine De ?_ (by first|omega|(simp;done)|(simp;omega)) _|with_reducible refine Dj ?_ (by simp) _)
theorem cG4(b off n cap:Nat)(zs:List Int)(w:World)(h:CellsAt w (Y ⟨b,off,O⟩) n (bts zs))(hb:IsB zs)(hn:n<=1048576)(hcap:n<=cap)(h11:11<=n)(hset:lL (zs.getD 0 0)=A'):
  Calls prog 72 #[Z (Y ⟨b,off,O⟩) n cap] w fun e w'=>e=R' (.tuple #[recV (dJ zs).1,I J (dJ zs).2])/\V' w w':=by
 have HL:=h.len;have h5':¬(n:Int)<5:=by omega
 have i0:(0:Int)<(n:Int):=by omega
 have i0n:0<n:=by omega
 obtain⟨b',off',hbo,hc0⟩:=h.at (show 0<n by omega);simp only[Af,Ap,Cn]at hbo;obtain⟨rfl,rfl⟩:=hbo;rw[Nat.add_zero]at hc0;obtain⟨p0,q0⟩:=hb 0;obtain⟨p1,q1⟩:=hb 1;obtain⟨p2,q2⟩:=hb 2;obtain⟨p3,q3⟩:=hb 3;obtain⟨p4,q4⟩:=hb 4;obtain⟨p5,q5⟩:=hb 5;obtain⟨p6,q6⟩:=hb 6;obtain⟨p7,q7⟩:=hb 7;obtain⟨p8,q8⟩:=hb 8;have tk1:=fun(W:World) (hW:Below (w.heap.size+1) (w.alloc (M #[I J 0,I J 0,I J 0,X F',I J 0,X F',I J 0] 79)) W)=>vS (Y ⟨b,off,O⟩) n cap 1 zs W (h.below (cO hW)) hb (by omega) (by omega);simp only[Nat.reduceAdd,Int.reduceNeg,Int.cast_ofNat_Int]at tk1;have tk5:=fun(W:World) (hW:Below (w.heap.size+1) (w.alloc (M #[I J 0,I J 0,I J 0,X F',I J 0,X F',I J 0] 79)) W)=>vS (Y ⟨b,off,O⟩) n cap 5 zs W (h.below (cO hW)) hb (by omega) (by omega);simp only[Nat.reduceAdd,Int.reduceNeg,Int.cast_ofNat_Int]at tk5;have tk7:=fun(W:World) (hW:Below (w.heap.size+1) (w.alloc (M #[I J 0,I J 0,I J 0,X F',I J 0,X F',I J 0] 79)) W)=>vS (Y ⟨b,off,O⟩) n cap 7 zs W (h.below (cO hW)) hb (by omega) (by omega);simp only[Nat.reduceAdd,Int.reduceNeg,Int.cast_ofNat_Int]at tk7;have hc3:Hid (∀W,Below (w.heap.size+1) (w.alloc (M #[I J 0,I J 0,I J 0,X F',I J 0,X F',I J 0] 79)) W->W.cell? ⟨b,off+3,O⟩=Y (I .u8 (zs.getD 3 0))):=by intro W hW;obtain⟨b',off',hbo,hc⟩:=h.at (show 3<n by omega);simp only[Af,Ap,Cn]at hbo;obtain⟨rfl,rfl⟩:=hbo;exact keep_cell (cO hW) hc
 have hc4:Hid (∀W,Below (w.heap.size+1) (w.alloc (M #[I J 0,I J 0,I J 0,X F',I J 0,X F',I J 0] 79)) W->W.cell? ⟨b,off+4,O⟩=Y (I .u8 (zs.getD 4 0))):=by intro W hW;obtain⟨b',off',hbo,hc⟩:=h.at (show 4<n by omega);simp only[Af,Ap,Cn]at hbo;obtain⟨rfl,rfl⟩:=hbo;exact keep_cell (cO hW) hc
 have HU:Hid (Ch.unp zs=⟨zs.getD 0 0,zs.getD 1 0*256+zs.getD 2 0,zs.getD 3 0,zs.getD 4 0%2==1,zs.getD 5 0*256+zs.getD 6 0,zs.getD 4 0 / 2%2==1,zs.getD 7 0*256+zs.getD 8 0⟩):=by show _=_;unfold Ch.unp;rw[hset];rfl
 generalize zs.getD 0 0=d0 at*;generalize zs.getD 1 0=d1 at*;generalize zs.getD 2 0=d2 at*;generalize zs.getD 3 0=d3 at*;generalize zs.getD 4 0=d4 at*;generalize zs.getD 5 0=d5 at*;generalize zs.getD 6 0=d6 at*;generalize zs.getD 7 0=d7 at*;generalize zs.getD 8 0=d8 at*;have hw0:IntKind.i64.wrap d0=d0:=Br d0 ⟨by omega,by omega⟩;have hw3:IntKind.i64.wrap d3=d3:=Br d3 ⟨by omega,by omega⟩;have i11:¬(n:Int)<11:=by omega
 have i3:(3:Int)<(n:Int):=by omega
 have i4:(4:Int)<(n:Int):=by omega
 have i3n:3<n:=by omega
 have i4n:4<n:=by omega
 go_enter func72,ntmps72
 go_upto_region 3 with fail
 go_cut [4] (fun s wx=>s= .pointer (Y ⟨w.heap.size+1,0,O⟩)/\wx.heap[w.heap.size+1]? =Y (M #[I J d0,I J (d1*256+d2),I J 0,X F',I J 0,X F',I J 0] 79 (0,0))/\Below (w.heap.size+1) (w.alloc (M #[I J 0,I J 0,I J 0,X F',I J 0,X F',I J 0] 79)) wx/\wx.heap.size=w.heap.size+2)
 case first=>
  have HS:Hid (∀W',Below (w.heap.size+1) (w.alloc (M #[I J 0,I J 0,I J 0,X F',I J 0,X F',I J 0] 79)) W'->W'.cell? ⟨b,off,O⟩=Y (I .u8 d0)/\Below (w.heap.size+1) (w.alloc (M #[I J 0,I J 0,I J 0,X F',I J 0,X F',I J 0] 79)) W'):=fun W' hb=>⟨(keep_cell (cO hb) hc0),hb⟩
  refine R0 (fun W'=>W'.cell? ⟨b,off,O⟩=Y (I .u8 d0)/\Below (w.heap.size+1) (w.alloc (M #[I J 0,I J 0,I J 0,X F',I J 0,X F',I J 0] 79)) W') (HS.out _ (Aa _ _).drew) (fun hH=>?_);refine R5 0 1 2 3 4 ?_;refine Dr (rs:=[5,7]) (by kernel_rfl) (by simp) ?_;refine Bi rfl (fun K hK=>?_) (Bi rfl (fun K hK=>?_) Dk);focus
   go_simp;refine(tk1 _ hH.2).mono ?_;rintro e w1⟨rfl,hh1,bq⟩;have bq:=hH.2.trans (bq.mono (by simp));go_wp2_with fail
   refine hK.out _ _ ?_ (fun hH=>?_)
   .exact HS.out _ bq
   clear hK K;refine R1 6 ?_;refine R6 7 (fun K hK=>?_);go_simp;refine hK.out _ _ ?_ (fun hH=>?_)
   .exact HS.out _ (hH.2.alloc (by first|(simp;done)|(have:=hH.2.size;simp at this;omega)) _)
   clear hK K;have zq:=bq.size;simp at zq;have hsq:w1.heap.size=w.heap.size+1:=by rw[hh1];simp
   refine R6 8 (fun K hK=>?_);go_simp;refine hK.out _ _ ?_ (fun hH=>?_)
   .exact HS.out _ (bq.alloc zq _)
   clear hK K;refine R7 ?_;go_wp2_with fail
   go_meet;exact⟨rfl,aP hsq.symm,bq.alloc zq _,by simp[hsq]⟩
  rotate_left;focus
   go_simp;refine hK.out _ _ ?_ (fun hH=>?_)
   .exact HS.out _ (hH.2.alloc (by first|(simp;done)|(have:=hH.2.size;simp at this;omega)) _)
   clear hK K;refine R6 5 (fun K hK=>?_);go_simp;refine(tk1 _ hH.2).mono ?_;rintro e w1⟨rfl,hh1,bq⟩;have bq:=hH.2.trans (bq.mono (by simp));go_wp2_with fail
   refine hK.out _ _ ?_ (fun hH=>?_)
   .exact HS.out _ bq
   clear hK K;refine R1 6 ?_;have hR:w1.heap[w.heap.size+1]? =Y (M #[I J 0,I J 0,I J 0,X F',I J 0,X F',I J 0] 79 (0,0)):=by rw[hh1];exact aP (by simp)
   have hsq:w1.heap.size=w.heap.size+2:=by rw[hh1];simp
   obtain⟨x0,x1,x2,x3,x4,x5,x6⟩:=aH1 hR;obtain⟨f0,f1,f2,f3,f4,f5,f6⟩:=bN4 hR;refine R6 8 (fun K hK=>?_);go_simp;refine hK.out _ _ ?_ (fun hH=>?_)
   .exact HS.out _ (nU bq (by omega) _ _ _ _ _ _ _)
   clear hK K;clear x0 x1 x2 x3 x4 x5 x6 f0 f1 f2 f3 f4 f5 f6;refine R7 ?_;go_wp2_with fail
   go_meet;exact⟨rfl,aP2 hR _ _ _ _ _ _ _,nU bq (by omega) _ _ _ _ _ _ _,by simp[hsq]⟩
  rotate_left
 case rest=>
 obtain⟨rfl,hR,hB,hsz⟩:=hcut;have x0:=(aH1 hR).1;go_upto_region 9 with(go_at_call 112;refine(nX _ _).mono ?_;rintro e w1⟨rfl,hw1⟩;subst w1)
 go_cut [] (fun wx=>wx.heap[w.heap.size+1]? =Y (M #[I J d0,I J (d1*256+d2),I J d3,X F',I J 0,X F',I J 0] 79 (0,0))/\Below (w.heap.size+1) (w.alloc (M #[I J 0,I J 0,I J 0,X F',I J 0,X F',I J 0] 79)) wx/\wx.heap.size=w.heap.size+2)
 case first=>
  have hd3:=hc3.out _ hB;obtain⟨x0,x1,x2,x3,x4,x5,x6⟩:=aH1 hR;obtain⟨f0,f1,f2,f3,f4,f5,f6⟩:=bN4 hR;go_wp2_with fail
  go_meet;exact⟨Ah (i:=2) hR _,hB.setCell (p:=⟨w.heap.size+1,2,O⟩) (by simp) _,by simpa using hsz⟩
 case rest=>
 clear hR hB hsz x0;obtain⟨hR,hB,hsz⟩:=hcut;go_upto_region 10 with fail
 go_cut [] (fun wx=>wx.heap[w.heap.size+1]? =Y (M #[I J d0,I J (d1*256+d2),I J d3,X (d4%2==1),I J 0,X F',I J 0] 79 (0,0))/\Below (w.heap.size+1) (w.alloc (M #[I J 0,I J 0,I J 0,X F',I J 0,X F',I J 0] 79)) wx/\wx.heap.size=w.heap.size+2)
 case first=>
  have hd4:=hc4.out _ hB;obtain⟨x0,x1,x2,x3,x4,x5,x6⟩:=aH1 hR;obtain⟨f0,f1,f2,f3,f4,f5,f6⟩:=bN4 hR;go_wp2_with fail
  go_meet;exact⟨Ah (i:=3) hR _,hB.setCell (p:=⟨w.heap.size+1,3,O⟩) (by simp) _,by simpa using hsz⟩
 case rest=>
 clear hR hB hsz;obtain⟨hR,hB,hsz⟩:=hcut;go_upto_region 11 with fail
 go_cut [] (fun wx=>wx.heap[w.heap.size+1]? =Y (M #[I J d0,I J (d1*256+d2),I J d3,X (d4%2==1),I J 0,X (d4 / 2%2==1),I J 0] 79 (0,0))/\Below (w.heap.size+1) (w.alloc (M #[I J 0,I J 0,I J 0,X F',I J 0,X F',I J 0] 79)) wx/\wx.heap.size=w.heap.size+2)
 case first=>
  have hd4:=hc4.out _ hB;obtain⟨x0,x1,x2,x3,x4,x5,x6⟩:=aH1 hR;obtain⟨f0,f1,f2,f3,f4,f5,f6⟩:=bN4 hR;go_wp2_with fail
  go_meet;exact⟨Ah (i:=5) hR _,hB.setCell (p:=⟨w.heap.size+1,5,O⟩) (by simp) _,by simpa using hsz⟩
 case rest=>
 clear hR hB hsz;obtain⟨hR,hB,hsz⟩:=hcut;go_upto_region 12 with fail
 go_cut [] (fun wx=>wx.heap[w.heap.size+1]? =Y (M #[I J d0,I J (d1*256+d2),I J d3,X (d4%2==1),I J (d5*256+d6),X (d4 / 2%2==1),I J 0] 79 (0,0))/\Below (w.heap.size+1) (w.alloc (M #[I J 0,I J 0,I J 0,X F',I J 0,X F',I J 0] 79)) wx/\wx.heap.size=w.heap.size+2)
 case first=>
  go_wp2_with fail
  refine(tk5 _ hB).mono ?_;rintro e w1⟨rfl,hh1,b1⟩;have hR1:w1.heap[w.heap.size+1]? =_:=(congrArg (fun hp=>hp[w.heap.size+1]?) hh1).trans hR;have hs1:w1.heap.size=w.heap.size+2:=by rw[hh1];exact hsz
  have hB1:=hB.trans (b1.mono (by omega));obtain⟨x0,x1,x2,x3,x4,x5,x6⟩:=aH1 hR1;obtain⟨f0,f1,f2,f3,f4,f5,f6⟩:=bN4 hR1;go_wp2_with fail
  go_meet;exact⟨Ah (i:=4) hR1 _,hB1.setCell (p:=⟨w.heap.size+1,4,O⟩) (by simp) _,by simpa using hs1⟩
 case rest=>
 clear hR hB hsz;obtain⟨hR,hB,hsz⟩:=hcut;go_upto_region 13 with fail
 go_cut [] (fun wx=>wx.heap[w.heap.size+1]? =Y (M #[I J d0,I J (d1*256+d2),I J d3,X (d4%2==1),I J (d5*256+d6),X (d4 / 2%2==1),I J (d7*256+d8)] 79 (0,0))/\Below (w.heap.size+1) (w.alloc (M #[I J 0,I J 0,I J 0,X F',I J 0,X F',I J 0] 79)) wx/\wx.heap.size=w.heap.size+2)
 case first=>
  go_wp2_with fail
  refine(tk7 _ hB).mono ?_;rintro e w1⟨rfl,hh1,b1⟩;have hR1:w1.heap[w.heap.size+1]? =_:=(congrArg (fun hp=>hp[w.heap.size+1]?) hh1).trans hR;have hs1:w1.heap.size=w.heap.size+2:=by rw[hh1];exact hsz
  have hB1:=hB.trans (b1.mono (by omega));obtain⟨x0,x1,x2,x3,x4,x5,x6⟩:=aH1 hR1;obtain⟨f0,f1,f2,f3,f4,f5,f6⟩:=bN4 hR1;go_wp2_with fail
  go_meet;exact⟨Ah (i:=6) hR1 _,hB1.setCell (p:=⟨w.heap.size+1,6,O⟩) (by simp) _,by simpa using hs1⟩
 case rest=>
 clear hR hB hsz;obtain⟨hR,hB,hsz⟩:=hcut;clear tk1 tk5 tk7 hc0 hc3 hc4;obtain⟨x0,x1,x2,x3,x4,x5,x6⟩:=aH1 hR;have j1:(11:Int)<=(n:Int):=by omega
 have j2:(11:Int)<=(cap:Int):=by omega
 have j3:11<=cap:=by omega
 have HLn:Hid (Rec.len ⟨d0,d1*256+d2,d3,d4%2==1,d5*256+d6,d4 / 2%2==1,d7*256+d8⟩=11):=by show _=_;simp[Rec.len,hset]
 go_upto_region 14 with fail
 by_cases hf:Rec.fault ⟨d0,d1*256+d2,d3,d4%2==1,d5*256+d6,d4 / 2%2==1,d7*256+d8⟩=0
 .have HF:Hid (Rec.fault ⟨d0,d1*256+d2,d3,d4%2==1,d5*256+d6,d4 / 2%2==1,d7*256+d8⟩=0):=hf;have fit:=Rec.fit hf;have E0:=cR5 (bD5 (Rec.all_bytes fit)) (bO7 hb 11);have HP:Hid (decide (Rec.bytes ⟨d0,d1*256+d2,d3,d4%2==1,d5*256+d6,d4 / 2%2==1,d7*256+d8⟩=zs.take 11)=decide (Rec.bytes ⟨d0,d1*256+d2,d3,d4%2==1,d5*256+d6,d4 / 2%2==1,d7*256+d8⟩<+:zs)):=by
   show _=_;rw[<-aO3,Rec.bytes_len,HLn.out];by_cases e:zs.take 11=Rec.bytes ⟨d0,d1*256+d2,d3,d4%2==1,d5*256+d6,d4 / 2%2==1,d7*256+d8⟩
   .simp[e]
   .simp[e,Ne.symm e]
  clear hf;by_cases hp:Rec.bytes ⟨d0,d1*256+d2,d3,d4%2==1,d5*256+d6,d4 / 2%2==1,d7*256+d8⟩<+:zs
  .rw[HP.out,Fa hp]at E0;have HV:Hid (dJ zs=(⟨d0,d1*256+d2,d3,d4%2==1,d5*256+d6,d4 / 2%2==1,d7*256+d8⟩,11)):=by have:=uS (zs:=zs) (by rw[HU.out];exact HF.out) (by rw[HU.out];exact hp);rw[HU.out,HLn.out]at this;exact this
   clear hp HP;have HS:Hid (∀W',V' wc W'->W'.cell? ⟨w.heap.size+1,0,O⟩=Y (I J (d0))/\W'.cell? ⟨w.heap.size+1,1,O⟩=Y (I J (d1*256+d2))/\W'.cell? ⟨w.heap.size+1,2,O⟩=Y (I J (d3))/\W'.cell? ⟨w.heap.size+1,3,O⟩=Y (X (d4%2==1))/\W'.cell? ⟨w.heap.size+1,4,O⟩=Y (I J (d5*256+d6))/\W'.cell? ⟨w.heap.size+1,5,O⟩=Y (X (d4 / 2%2==1))/\W'.cell? ⟨w.heap.size+1,6,O⟩=Y (I J (d7*256+d8))/\(convert 22 9 (Z (Y ⟨b,off,O⟩) 11 cap)).run prog W'= .ok (.string (strOfNums (zs.take 11))) W'/\V' wc W'):=fun W' hb'=>⟨keep_cell hb' x0,keep_cell hb' x1,keep_cell hb' x2,keep_cell hb' x3,keep_cell hb' x4,keep_cell hb' x5,keep_cell hb' x6,lS ((h.take (m:=11) (by omega)).below ((cO hB).trans (hb'.mono (cO hB).size))) cap,hb'⟩
   refine R0 (fun W'=>W'.cell? ⟨w.heap.size+1,0,O⟩=Y (I J (d0))/\W'.cell? ⟨w.heap.size+1,1,O⟩=Y (I J (d1*256+d2))/\W'.cell? ⟨w.heap.size+1,2,O⟩=Y (I J (d3))/\W'.cell? ⟨w.heap.size+1,3,O⟩=Y (X (d4%2==1))/\W'.cell? ⟨w.heap.size+1,4,O⟩=Y (I J (d5*256+d6))/\W'.cell? ⟨w.heap.size+1,5,O⟩=Y (X (d4 / 2%2==1))/\W'.cell? ⟨w.heap.size+1,6,O⟩=Y (I J (d7*256+d8))/\(convert 22 9 (Z (Y ⟨b,off,O⟩) 11 cap)).run prog W'= .ok (.string (strOfNums (zs.take 11))) W'/\V' wc W') (HS.out _ (Aa _ _).drew) (fun hH=>?_);refine R1 0 ?_;refine R6 1 (fun K hK=>?_);go_simp;refine(mS (d0) (d1*256+d2) (d3) (d4%2==1) (d5*256+d6) (d4 / 2%2==1) (d7*256+d8) _).mono ?_;rintro e w1⟨rfl,b1⟩;rw[HF.out];have b1:=hH.2.2.2.2.2.2.2.2.trans (b1.mono (by simp));go_wp2_with fail
   refine hK.out _ _ ?_ (fun hH=>?_)
   .exact HS.out _ b1
   clear hK K;refine R5 2 3 4 7 8 ?_;refine R2 9 10 ?_;refine R6 5 (fun K hK=>?_);go_simp;refine(qG (d0) (d1*256+d2) (d3) (d4%2==1) (d5*256+d6) (d4 / 2%2==1) (d7*256+d8) _ fit).mono ?_;rw[HLn.out];rintro e w2⟨g,cp,rfl,own,b2⟩;have b2:=hH.2.2.2.2.2.2.2.2.trans (b2.mono b1.size);have hcv:=lS (w:=w2) (a:=Y ⟨g,0,O⟩) (n:=11) (zs:=Rec.bytes ⟨d0,d1*256+d2,d3,d4%2==1,d5*256+d6,d4 / 2%2==1,d7*256+d8⟩) (by simpa using aO own) cp;go_wp2_with fail
   refine hK.out _ _ ?_ (fun hH=>?_)
   .exact HS.out _ b2
   clear hK K;refine R6 6 (fun K hK=>?_);go_simp;refine hK.out _ _ ?_ (fun hH=>?_)
   .exact hH
   clear hK K;refine R2 11 12 ?_;refine R7 ?_;clear hcv E0 HLn;have zc:=b2.size;have x0:=keep_cell b2 x0;have x1:=keep_cell b2 x1;have x2:=keep_cell b2 x2;have x3:=keep_cell b2 x3;have x4:=keep_cell b2 x4;have x5:=keep_cell b2 x5;have x6:=keep_cell b2 x6;have bF:=hB.trans (b2.mono (by omega));have bF':Below (w.alloc (M #[I J 0,I J 0,I J 0,X F',I J 0,X F',I J 0] 79)).heap.size (w.alloc (M #[I J 0,I J 0,I J 0,X F',I J 0,X F',I J 0] 79)) w2:=by simpa using bF
   obtain⟨y0,y1,y2,y3,y4,y5,y6⟩:=bZ4 bF';have g0:=bF.frozen (p:=⟨w.heap.size,0,O⟩) (by simp);have g1:=bF.frozen (p:=⟨w.heap.size,1,O⟩) (by simp);have g2:=bF.frozen (p:=⟨w.heap.size,2,O⟩) (by simp);have g3:=bF.frozen (p:=⟨w.heap.size,3,O⟩) (by simp);have g4:=bF.frozen (p:=⟨w.heap.size,4,O⟩) (by simp);have g5:=bF.frozen (p:=⟨w.heap.size,5,O⟩) (by simp);have g6:=bF.frozen (p:=⟨w.heap.size,6,O⟩) (by simp);simp[go_sem]at g0 g1 g2 g3 g4 g5 g6;have bE:=cO bF;have zE:=aD y0;clear bF bF';go_wp2_with fail
   rw[HV.out];refine Ae (v:=.tuple #[U #[I J (d0),I J (d1*256+d2),I J (d3),X (d4%2==1),I J (d5*256+d6),X (d4 / 2%2==1),I J (d7*256+d8)],I J 11]) (by simp[results,Tryz.results72,go_sem,zE,y0,y1,y2,y3,y4,y5,y6]) rfl ⟨rfl,?_⟩;repeat(first|with_reducible exact bE|with_reducible refine Dw ?_|with_reducible refine De ?_ (by first|omega|(simp;done)|(simp;omega)) _|with_reducible refine Dj ?_ (by simp) _)
  .rw[HP.out,Fz hp]at E0;have HV:Hid (dJ zs=(Rec.zero,0)):=iR (by rw[HU.out];exact fun hh=>hp hh.2);clear hp HP;have HS:Hid (∀W',V' wc W'->W'.cell? ⟨w.heap.size+1,0,O⟩=Y (I J (d0))/\W'.cell? ⟨w.heap.size+1,1,O⟩=Y (I J (d1*256+d2))/\W'.cell? ⟨w.heap.size+1,2,O⟩=Y (I J (d3))/\W'.cell? ⟨w.heap.size+1,3,O⟩=Y (X (d4%2==1))/\W'.cell? ⟨w.heap.size+1,4,O⟩=Y (I J (d5*256+d6))/\W'.cell? ⟨w.heap.size+1,5,O⟩=Y (X (d4 / 2%2==1))/\W'.cell? ⟨w.heap.size+1,6,O⟩=Y (I J (d7*256+d8))/\(convert 22 9 (Z (Y ⟨b,off,O⟩) 11 cap)).run prog W'= .ok (.string (strOfNums (zs.take 11))) W'/\V' wc W'):=fun W' hb'=>⟨keep_cell hb' x0,keep_cell hb' x1,keep_cell hb' x2,keep_cell hb' x3,keep_cell hb' x4,keep_cell hb' x5,keep_cell hb' x6,lS ((h.take (m:=11) (by omega)).below ((cO hB).trans (hb'.mono (cO hB).size))) cap,hb'⟩
   refine R0 (fun W'=>W'.cell? ⟨w.heap.size+1,0,O⟩=Y (I J (d0))/\W'.cell? ⟨w.heap.size+1,1,O⟩=Y (I J (d1*256+d2))/\W'.cell? ⟨w.heap.size+1,2,O⟩=Y (I J (d3))/\W'.cell? ⟨w.heap.size+1,3,O⟩=Y (X (d4%2==1))/\W'.cell? ⟨w.heap.size+1,4,O⟩=Y (I J (d5*256+d6))/\W'.cell? ⟨w.heap.size+1,5,O⟩=Y (X (d4 / 2%2==1))/\W'.cell? ⟨w.heap.size+1,6,O⟩=Y (I J (d7*256+d8))/\(convert 22 9 (Z (Y ⟨b,off,O⟩) 11 cap)).run prog W'= .ok (.string (strOfNums (zs.take 11))) W'/\V' wc W') (HS.out _ (Aa _ _).drew) (fun hH=>?_);refine R1 0 ?_;refine R6 1 (fun K hK=>?_);go_simp;refine(mS (d0) (d1*256+d2) (d3) (d4%2==1) (d5*256+d6) (d4 / 2%2==1) (d7*256+d8) _).mono ?_;rintro e w1⟨rfl,b1⟩;rw[HF.out];have b1:=hH.2.2.2.2.2.2.2.2.trans (b1.mono (by simp));go_wp2_with fail
   refine hK.out _ _ ?_ (fun hH=>?_)
   .exact HS.out _ b1
   clear hK K;refine R5 2 3 4 7 8 ?_;refine R2 9 10 ?_;refine R6 5 (fun K hK=>?_);go_simp;refine(qG (d0) (d1*256+d2) (d3) (d4%2==1) (d5*256+d6) (d4 / 2%2==1) (d7*256+d8) _ fit).mono ?_;rw[HLn.out];rintro e w2⟨g,cp,rfl,own,b2⟩;have b2:=hH.2.2.2.2.2.2.2.2.trans (b2.mono b1.size);have hcv:=lS (w:=w2) (a:=Y ⟨g,0,O⟩) (n:=11) (zs:=Rec.bytes ⟨d0,d1*256+d2,d3,d4%2==1,d5*256+d6,d4 / 2%2==1,d7*256+d8⟩) (by simpa using aO own) cp;go_wp2_with fail
   refine hK.out _ _ ?_ (fun hH=>?_)
   .exact HS.out _ b2
   clear hK K;refine R6 6 (fun K hK=>?_);go_simp;refine hK.out _ _ ?_ (fun hH=>?_)
   .exact hH
   clear hK K;refine R2 11 12 ?_;refine R7 ?_;clear hcv E0 HLn;have zc:=b2.size;have x0:=keep_cell b2 x0;have x1:=keep_cell b2 x1;have x2:=keep_cell b2 x2;have x3:=keep_cell b2 x3;have x4:=keep_cell b2 x4;have x5:=keep_cell b2 x5;have x6:=keep_cell b2 x6;have bF:=hB.trans (b2.mono (by omega));have bF':Below (w.alloc (M #[I J 0,I J 0,I J 0,X F',I J 0,X F',I J 0] 79)).heap.size (w.alloc (M #[I J 0,I J 0,I J 0,X F',I J 0,X F',I J 0] 79)) w2:=by simpa using bF
   obtain⟨y0,y1,y2,y3,y4,y5,y6⟩:=bZ4 bF';have g0:=bF.frozen (p:=⟨w.heap.size,0,O⟩) (by simp);have g1:=bF.frozen (p:=⟨w.heap.size,1,O⟩) (by simp);have g2:=bF.frozen (p:=⟨w.heap.size,2,O⟩) (by simp);have g3:=bF.frozen (p:=⟨w.heap.size,3,O⟩) (by simp);have g4:=bF.frozen (p:=⟨w.heap.size,4,O⟩) (by simp);have g5:=bF.frozen (p:=⟨w.heap.size,5,O⟩) (by simp);have g6:=bF.frozen (p:=⟨w.heap.size,6,O⟩) (by simp);simp[go_sem]at g0 g1 g2 g3 g4 g5 g6;have bE:=cO bF;have zE:=aD y0;clear bF bF';go_wp2_with fail
   rw[HV.out];refine Ae (v:=.tuple #[U #[I J 0,I J 0,I J 0,X F',I J 0,X F',I J 0],I J 0]) (by simp[results,Tryz.results72,go_sem,zE,y0,y1,y2,y3,y4,y5,y6]) rfl ⟨rfl,?_⟩;repeat(first|with_reducible exact bE|with_reducible refine Dw ?_|with_reducible refine De ?_ (by first|omega|(simp;done)|(simp;omega)) _|with_reducible refine Dj ?_ (by simp) _)
 .have HV:Hid (dJ zs=(Rec.zero,0)):=iR (by rw[HU.out];exact fun hh=>hf hh.1);obtain⟨fc,hfc⟩:∃fc,fc=Rec.fault ⟨d0,d1*256+d2,d3,d4%2==1,d5*256+d6,d4 / 2%2==1,d7*256+d8⟩:=⟨_,rfl⟩
  rw[<-hfc]at hf;have HF:Hid (Rec.fault ⟨d0,d1*256+d2,d3,d4%2==1,d5*256+d6,d4 / 2%2==1,d7*256+d8⟩=fc):=hfc.symm;have hc:(fc !=0)=A':=by simpa using hf
  clear hfc hf;have HS:Hid (∀W',V' wc W'->W'.cell? ⟨w.heap.size+1,0,O⟩=Y (I J (d0))/\W'.cell? ⟨w.heap.size+1,1,O⟩=Y (I J (d1*256+d2))/\W'.cell? ⟨w.heap.size+1,2,O⟩=Y (I J (d3))/\W'.cell? ⟨w.heap.size+1,3,O⟩=Y (X (d4%2==1))/\W'.cell? ⟨w.heap.size+1,4,O⟩=Y (I J (d5*256+d6))/\W'.cell? ⟨w.heap.size+1,5,O⟩=Y (X (d4 / 2%2==1))/\W'.cell? ⟨w.heap.size+1,6,O⟩=Y (I J (d7*256+d8))/\(convert 22 9 (Z (Y ⟨b,off,O⟩) 11 cap)).run prog W'= .ok (.string (strOfNums (zs.take 11))) W'/\V' wc W'):=fun W' hb'=>⟨keep_cell hb' x0,keep_cell hb' x1,keep_cell hb' x2,keep_cell hb' x3,keep_cell hb' x4,keep_cell hb' x5,keep_cell hb' x6,lS ((h.take (m:=11) (by omega)).below ((cO hB).trans (hb'.mono (cO hB).size))) cap,hb'⟩
  refine R0 (fun W'=>W'.cell? ⟨w.heap.size+1,0,O⟩=Y (I J (d0))/\W'.cell? ⟨w.heap.size+1,1,O⟩=Y (I J (d1*256+d2))/\W'.cell? ⟨w.heap.size+1,2,O⟩=Y (I J (d3))/\W'.cell? ⟨w.heap.size+1,3,O⟩=Y (X (d4%2==1))/\W'.cell? ⟨w.heap.size+1,4,O⟩=Y (I J (d5*256+d6))/\W'.cell? ⟨w.heap.size+1,5,O⟩=Y (X (d4 / 2%2==1))/\W'.cell? ⟨w.heap.size+1,6,O⟩=Y (I J (d7*256+d8))/\(convert 22 9 (Z (Y ⟨b,off,O⟩) 11 cap)).run prog W'= .ok (.string (strOfNums (zs.take 11))) W'/\V' wc W') (HS.out _ (Aa _ _).drew) (fun hH=>?_);refine R1 0 ?_;refine R6 1 (fun K hK=>?_);go_simp;refine(mS (d0) (d1*256+d2) (d3) (d4%2==1) (d5*256+d6) (d4 / 2%2==1) (d7*256+d8) _).mono ?_;rintro e w1⟨rfl,b1⟩;rw[HF.out];have b1:=hH.2.2.2.2.2.2.2.2.trans (b1.mono (by simp));go_wp2_with fail
  refine hK.out _ _ ?_ (fun hH=>?_)
  .exact HS.out _ b1
  clear hK K;refine R8 2 (h:=R8 3 (h:=R9 4 (h:=R9 5 (h:=R9 6 (h:=J3 ?_)))));refine R9 7 (h:=R9 8 (h:=R9 9 (h:=R9 10 (h:=R9 11 (h:=J3 ?_)))));refine R1 12 ?_;refine R7 ?_;clear HLn;have zc:=b1.size;have bF:=hB.trans (b1.mono (by omega));have bF':Below (w.alloc (M #[I J 0,I J 0,I J 0,X F',I J 0,X F',I J 0] 79)).heap.size (w.alloc (M #[I J 0,I J 0,I J 0,X F',I J 0,X F',I J 0] 79)) w1:=by simpa using bF
  obtain⟨y0,y1,y2,y3,y4,y5,y6⟩:=bZ4 bF';have g0:=bF.frozen (p:=⟨w.heap.size,0,O⟩) (by simp);have g1:=bF.frozen (p:=⟨w.heap.size,1,O⟩) (by simp);have g2:=bF.frozen (p:=⟨w.heap.size,2,O⟩) (by simp);have g3:=bF.frozen (p:=⟨w.heap.size,3,O⟩) (by simp);have g4:=bF.frozen (p:=⟨w.heap.size,4,O⟩) (by simp);have g5:=bF.frozen (p:=⟨w.heap.size,5,O⟩) (by simp);have g6:=bF.frozen (p:=⟨w.heap.size,6,O⟩) (by simp);simp[go_sem]at g0 g1 g2 g3 g4 g5 g6;have bE:=cO bF;have zE:=aD y0;clear bF bF';go_wp2_with fail
  rw[HV.out];refine Ae (v:=.tuple #[U #[I J 0,I J 0,I J 0,X F',I J 0,X F',I J 0],I J 0]) (by simp[results,Tryz.results72,go_sem,zE,y0,y1,y2,y3,y4,y5,y6]) rfl ⟨rfl,?_⟩;repeat(first|with_reducible exact bE|with_reducible refine Dw ?_|with_reducible refine De ?_ (by first|omega|(simp;done)|(simp;omega)) _|with_reducible refine Dj ?_ (by simp) _)
theorem cW5(a:Option Addr)(n cap:Nat)(zs:List Int)(w:World)(h:CellsAt w a n (bts zs))(hb:IsB zs)(hn:n<=1048576)(hcap:n<=cap):
  Calls prog 72 #[Z a n cap] w fun e w'=>e=R' (.tuple #[recV (dJ zs).1,I J (dJ zs).2])/\V' w w':=by
 by_cases h5:n<5
 .exact bP6 a n cap zs w h h5
 obtain⟨b,off,rfl,_⟩:=h.2 (by omega);cases hset:lL (zs.getD 0 0)
 .exact bP5 b off n cap zs w h hb hn hcap (by omega) hset
 by_cases h11:n<11
 .exact cW6 b off n cap zs w h hb hn hcap (by omega) h11 hset
 .exact cG4 b off n cap zs w h hb hn hcap (by omega) hset
end Go.Proofs.YtpbbokalojdooaaGreat
