import Derived.Test.YtpbbokalojdooaaGreatQbd
import Derived.Test.YtpbbokalojdooaaGreatQbh
import Derived.Test.YtpbbokalojdooaaGreatQbi
namespace Go.Proofs.YtpbbokalojdooaaGreat
open Go.RowKit Ch Go.Proofs.Tryz
set_option linter.unusedSimpArgs false
set_option linter.unusedVariables false
set_option maxRecDepth 20000
set_option maxHeartbeats 8000000
open Value renaming int->I,slice->Z,bool->X,agg->U
open IntKind renaming i64->J
open Option renaming none->O,some->Y
open Obj renaming cells->M
open Ending renaming returned->R'
open Bool renaming true->A',false->F'
variable {cs:Array Value} {e:Eng} {t v:Int} {sys:List Int} {ls:List Lock} {l:Lock} {N:Nat} {T:Nat->Nat} {P:Nat->Prop} {W:World}
theorem bJ2{a b:Int}(ha:Ch.isM a=A')(hb:Ch.isM b=A'):Ch.tab rA a b=kH a b:=by unfold kH;rw[ha,hb];rfl
theorem bW9(h:aS ls=0){i:Nat}(hi:i<ls.length):(aH ls i).hs.length<=20/\(aH ls i).qs.length<=20/\aZ (aH ls i).hs=A'/\aZ (aH ls i).qs=A':=by have:=fN (iI ((eL h).1 i hi)).2.2.2;exact⟨this.1,this.2.1,this.2.2.1,this.2.2.2.1⟩
def EdgD(ls:List Lock)(w:World)(e:Ending)(w':World):Prop:=
 ∃g m c,e=R' (Z (Y ⟨g,0,O⟩) m c)/\m<=100000/\w'.ownsRow w.heap.size 274 2 (Z (Y ⟨g,0,O⟩) m c) m (hcells (eM (gU ls)))/\Below w.heap.size w w'
theorem bL5(a:Option Addr)(n cap:Nat)(ls:List Lock)(w:World)(h:LkAt w a n ls)(hg:aS ls=0):
  Calls prog 183 #[Z a n cap] w fun e w'=>EdgD ls w e w':=by
 have HL:=h.len;have HG:=hid hg;have hn:n<=101:=by have:=mK hg;have:=HL.out;omega
 obtain⟨W0,hW0⟩:∃W0,w.heap.size=W0:=⟨_,rfl⟩
 have oE:=nL w 274 2;rw[hW0]at oE;have kE:=f' w (M #[] 274);clear hg;go_enter func183,ntmps183
 go_wp2;go_loopw [3,4] (fun q i wr=>∃(I' m g c:Nat),I'<=n/\i=I J I'/\q=Z (Y ⟨g,0,O⟩) m c/\wr.ownsRow W0 274 2 (Z (Y ⟨g,0,O⟩) m c) m (hcells (eM (gU (ls.take I'))))/\m<=800*I'/\Below w.heap.size w wr) (fun _ i _=>n-(intOf i).toNat)
 case atStart=>exact⟨0,0,_,0,Nat.zero_le _,rfl,rfl,oE,z',kE⟩
 case round=>
  clear oE kE;obtain⟨I',m,g,c,hI,rfl,rfl,own,hm,hB⟩:=hrel;generalize wr=wA at*;by_cases hlt:I'<n
  .have hIl:I'<ls.length:=by have:=HL.out;omega
   have HGK:=hid (bW9 HG.out hIl);have HAN:=hid (bR9 hIl);obtain⟨b,off,ah,nh,ch,aq,nq,cq,rfl,c0,c1,c2,h3,h4,_,_,_,_⟩:=(h.below hB).lock hlt;have HQN:=hid (fun k=>aX3 (aH ls I') k);generalize aH ls I'=l at*;obtain⟨r,hs,qs⟩:=l;simp only at c0 h3 h4 HGK HAN HQN;have HH:=h3.hlen;have HQ:=h4.hlen;have hnh:nh<=20:=by have:=HGK.out.1;have:=HH.out;omega
   have hnq:nq<=20:=by have:=HGK.out.2.1;have:=HQ.out;omega
   have hbl:=aD c0;have hq0:Hid (gU (ls.take I')++pG ⟨r,hs,qs⟩ 0=gU (ls.take I')):=by show _=_;simp[pG]
   obtain⟨A0,HA0⟩:∃A0,Hid (gU (ls.take I')=A0):=⟨_,rfl⟩
   rw[HA0.out]at own HAN hq0;obtain⟨QE,HQE⟩:∃QE:Nat->List Hold,Hid (∀k,pG ⟨r,hs,qs⟩ k=QE k):=⟨_,fun _=>rfl⟩
   rw[HQE.out]at hq0 HAN;have HQN2:Hid (∀k,QE (k+1)=QE k++(jF (qs.getD k Hold.zero) hs++kG (qs.getD k Hold.zero) (qs.take k))):=fun k=>by rw[<-HQE.out,<-HQE.out];exact HQN.out k
   clear HQN HQE;go_wp2;go_loopw [3,6] (fun q i wx=>∃(k m g c:Nat),k<=nq/\i=I J k/\q=Z (Y ⟨g,0,O⟩) m c/\wx.ownsRow W0 274 2 (Z (Y ⟨g,0,O⟩) m c) m (hcells (eM (A0++QE k)))/\m<=800*I'+40*k/\Below wA.heap.size wA wx) (fun _ i _=>nq-(intOf i).toNat)
   case atStart=>exact⟨0,m,g,c,Nat.zero_le _,rfl,rfl,by rw[hq0.out];exact own,by omega,u'⟩
   case round=>
    clear own hm hq0;obtain⟨k,m,g,c,hk,rfl,rfl,own,hm,hX⟩:=hrel;generalize wr=wx at*;have p1:=aC hX c1;have p2:=aC hX c2;have hbx:=aD p1;by_cases hlk:k<nq
    .have hkl:k<qs.length:=by have:=HQ.out;omega
     have HQK:=hid (HQN2.out k);have HNQ:=hid (jS (jO HGK.out.2.2.2 hkl));obtain⟨qb,qo,rfl,q0,q1⟩:=(h4.below hX).hold hlk;have hqb:=aD q0;generalize qs.getD k Hold.zero=qq at*;obtain⟨qt,qm⟩:=qq;simp only at q0 q1 HNQ;have kB:=f' wx (M #[I J qt,I J qm] 232);obtain⟨z0,z1,_,_⟩:=aA9 (heap_alloc_new wx (M #[I J qt,I J qm] 232));have own1:=aF own kB;have hX1:=hX.trans (kB.mono hX.size);have s1:=aC kB p1;have s2:=aC kB p2;have ls1:=aD s1;have lz:=aD z0;obtain⟨PX,hPX⟩:∃PX,wx.heap.size=PX:=⟨_,rfl⟩
     go_wp2;clear own q0 q1 kB p1 p2 hbx;rw[hPX]at z0 z1 lz;generalize wx.alloc (M #[I J qt,I J qm] 232)=X' at*;go_loopw [3,8] (fun q i wy=>∃(j m g c:Nat),j<=nh/\i=I J j/\q=Z (Y ⟨g,0,O⟩) m c/\wy.ownsRow W0 274 2 (Z (Y ⟨g,0,O⟩) m c) m (hcells (eM (A0++QE k++jF ⟨qt,qm⟩ (hs.take j))))/\m<=800*I'+40*k+j/\Below X'.heap.size X' wy) (fun _ i _=>nh-(intOf i).toNat)
     case atStart=>exact⟨0,m,g,c,Nat.zero_le _,rfl,rfl,by simpa[jF]using own1,by omega,u'⟩
     case round=>
      clear own1 hm;obtain⟨j,m,g,c,hj,rfl,rfl,own,hm,hY⟩:=hrel;generalize wr=wy at*;have t1:=aC hY s1;have t2:=aC hY s2;have y0:=aC hY z0;have y1:=aC hY z1;have lt1:=aD t1;have ly:=aD y0;have hXY:=hX1.trans (hY.mono hX1.size);by_cases hlj:j<nh
      .have hjl:j<hs.length:=by have:=HH.out;omega
       have HNH:=hid (jS (jO HGK.out.2.2.1 hjl));have HWY:=hid (fun he=>bT4 (q:=⟨qt,qm⟩) hjl he);have HWN:=hid (fun he=>cK7 (q:=⟨qt,qm⟩) hjl he);obtain⟨hb,ho,rfl,r0,r1⟩:=(h3.below hXY).hold hlj;have hhb:=aD r0;generalize hs.getD j Hold.zero=hh at*;obtain⟨rt,rm⟩:=hh;simp only at r0 r1 HNH HWY HWN;obtain⟨f,HF⟩:∃f,Hid (kH rm qm=f):=⟨_,rfl⟩
       have IF:=fun W=>aV8 rm qm W HNH.out.1 HNQ.out.1;rw[bJ2 HNH.out.1 HNQ.out.1,HF.out]at IF;rw[HF.out]at HWY HWN;by_cases h1:rt=qt
       .have e1:(rt !=qt)=F':=by simpa using h1
        replace HWN:=hid (HWN.out (by rw[e1];rfl));clear HWY h1;go_wp2_with fail
        refine R0 (fun W'=>W'.cell? ⟨b,off+I'*3+1,O⟩=Y (Z (Y ⟨hb,ho,O⟩) nh ch)/\W'.cell? ⟨PX,0,O⟩=Y (I J qt)/\W'.cell? ⟨PX,1,O⟩=Y (I J qm)/\W'.cell? ⟨hb,ho+j*2,O⟩=Y (I J rt)/\W'.cell? ⟨hb,ho+j*2+1,O⟩=Y (I J rm)/\Below X'.heap.size X' W') (⟨t1,y0,y1,r0,r1,hY.drew⟩) (fun hH=>?_);refine R5 0 1 2 3 4 ?_;refine R5 5 6 7 8 9 ?_;refine R8 10 (h:=R8 11 (h:=R9 12 (h:=R9 13 (h:=R9 14 (h:=J3 ?_)))));refine R9 15 (h:=R9 16 (h:=R9 17 (h:=R9 18 (h:=R9 19 (h:=J3 ?_)))));refine R9 20 (h:=R9 21 (h:=R9 22 (h:=R9 23 (h:=R8 24 (h:=J3 ?_)))));refine R7 ?_;go_wp2;go_roundw;case rel=>exact⟨j+1,m,g,c,by omega,by go_num,rfl,by rw[HWN.out];exact aF own (u'.drew),by omega,hH.2.2.2.2.2⟩
        case measure=>simp[intOf];omega
       have e1:(rt !=qt)=A':=by simpa using h1
       clear h1;cases f
       .replace HWY:=hid (HWY.out (by rw[e1];rfl));clear HWN;go_wp2_with fail
        refine R0 (fun W'=>W'.cell? ⟨b,off+I'*3+1,O⟩=Y (Z (Y ⟨hb,ho,O⟩) nh ch)/\W'.cell? ⟨PX,0,O⟩=Y (I J qt)/\W'.cell? ⟨PX,1,O⟩=Y (I J qm)/\W'.cell? ⟨hb,ho+j*2,O⟩=Y (I J rt)/\W'.cell? ⟨hb,ho+j*2+1,O⟩=Y (I J rm)/\Below X'.heap.size X' W') (⟨t1,y0,y1,r0,r1,hY.drew⟩) (fun hH=>?_);refine R5 0 1 2 3 4 ?_;refine R5 5 6 7 8 9 ?_;refine R5 10 11 12 13 14 ?_;refine R5 15 16 17 18 19 ?_;refine R2 20 21 ?_;refine R6 22 (fun K hK=>?_);go_simp;refine(IF _).mono ?_;rintro e w2⟨rfl,rfl⟩;go_wp2_with fail
        refine hK.out _ _ ?_ (fun hH=>?_)
        .exact hH
        clear hK K;refine R2 23 24 ?_;refine R7 ?_;have ownD:=aF own ((Below.refl wy.heap.size wy).drew);have hm1:m<=1048576:=by omega
        clear own r0 r1 t1 t2 y0 y1 hY hXY;go_wp2_with fail
        generalize wy.drew=Y' at*;refine R0 (fun W'=>W'.cell? ⟨b,off+I'*3+1,O⟩=Y (Z (Y ⟨hb,ho,O⟩) nh ch)/\W'.cell? ⟨PX,0,O⟩=Y (I J qt)/\W'.cell? ⟨PX,1,O⟩=Y (I J qm)/\W'.cell? ⟨hb,ho+j*2,O⟩=Y (I J rt)/\W'.cell? ⟨hb,ho+j*2+1,O⟩=Y (I J rm)/\Below X'.heap.size X' W') (⟨hH.1,hH.2.1,hH.2.2.1,hH.2.2.2.1,hH.2.2.2.2.1,hH.2.2.2.2.2.drew⟩) (fun hH=>?_);refine R5 0 1 2 3 4 ?_;refine R5 5 6 7 8 9 ?_;refine R2 10 11 ?_;refine R6 12 (fun K hK=>?_);have ownE:=aF ownD ((Below.refl Y'.heap.size Y').drew);have hB9:W0<=Y'.drew.heap.size:=by have:=(aG ownE g rfl);omega
        go_simp;refine(aV9 W0 g m c _ qt rt _ ownE hm1 hB9).mono ?_;rintro e w9⟨g9,m9,c9,rfl,own9,hm9,b9⟩;go_wp2_with fail
        refine hK.out _ _ ?_ (fun hH=>?_)
        .exact⟨aC b9 hH.1,aC b9 hH.2.1,aC b9 hH.2.2.1,aC b9 hH.2.2.2.1,aC b9 hH.2.2.2.2.1,hH.2.2.2.2.2.trans (b9.mono hH.2.2.2.2.2.size)⟩
        clear hK K;refine R1 13 ?_;refine R7 ?_;go_wp2;go_roundw;case rel=>exact⟨j+1,m9,g9,c9,by omega,by go_num,rfl,by rw[HWY.out,<-List.append_assoc,tW];exact own9,by omega,hH.2.2.2.2.2⟩
        case measure=>simp[intOf];omega
       .replace HWN:=hid (HWN.out (by rw[e1];rfl));clear HWY;go_wp2_with fail
        refine R0 (fun W'=>W'.cell? ⟨b,off+I'*3+1,O⟩=Y (Z (Y ⟨hb,ho,O⟩) nh ch)/\W'.cell? ⟨PX,0,O⟩=Y (I J qt)/\W'.cell? ⟨PX,1,O⟩=Y (I J qm)/\W'.cell? ⟨hb,ho+j*2,O⟩=Y (I J rt)/\W'.cell? ⟨hb,ho+j*2+1,O⟩=Y (I J rm)/\Below X'.heap.size X' W') (⟨t1,y0,y1,r0,r1,hY.drew⟩) (fun hH=>?_);refine R5 0 1 2 3 4 ?_;refine R5 5 6 7 8 9 ?_;refine R5 10 11 12 13 14 ?_;refine R5 15 16 17 18 19 ?_;refine R2 20 21 ?_;refine R6 22 (fun K hK=>?_);go_simp;refine(IF _).mono ?_;rintro e w2⟨rfl,rfl⟩;go_wp2_with fail
        refine hK.out _ _ ?_ (fun hH=>?_)
        .exact hH
        clear hK K;refine R2 23 24 ?_;refine R7 ?_;go_wp2;go_roundw;case rel=>exact⟨j+1,m,g,c,by omega,by go_num,rfl,by rw[HWN.out];exact aF own (u'.drew),by omega,hH.2.2.2.2.2⟩
        case measure=>simp[intOf];omega
      .obtain rfl:j=nh:=by omega
       have HTK:Hid (hs.take j=hs):=by have:=HH.out;show _=_;rw[this];exact List.take_length
       rw[HTK.out]at own;have ha0:Hid (A0++QE k++jF ⟨qt,qm⟩ hs++kG ⟨qt,qm⟩ (qs.take 0)=A0++QE k++jF ⟨qt,qm⟩ hs):=by show _=_;simp[kG]
       obtain⟨A1,HA1⟩:∃A1,Hid (A0++QE k++jF ⟨qt,qm⟩ hs=A1):=⟨_,rfl⟩
       rw[HA1.out]at own ha0;go_wp2;go_loopw [3,9] (fun q i wz=>∃(d m g c:Nat),d<=k/\i=I J d/\q=Z (Y ⟨g,0,O⟩) m c/\wz.ownsRow W0 274 2 (Z (Y ⟨g,0,O⟩) m c) m (hcells (eM (A1++kG ⟨qt,qm⟩ (qs.take d))))/\m<=800*I'+40*k+20+d/\Below wy.heap.size wy wz) (fun _ i _=>k-(intOf i).toNat)
       case atStart=>exact⟨0,m,g,c,Nat.zero_le _,rfl,rfl,by rw[ha0.out];exact own,by omega,u'⟩
       case round=>
        clear own hm ha0;obtain⟨d,m,g,c,hd,rfl,rfl,own,hm,hZ⟩:=hrel;generalize wr=wz at*;by_cases hld:d<k
        .have hdl:d<qs.length:=by omega
         have hdn:d<nq:=by omega
         have HAH:=hid (aS8 (q:=⟨qt,qm⟩) hdl);obtain⟨db,dd,hde,r0,r1⟩:=((h4.below hXY).below hZ).hold (show d<nq by omega);simp only[Option.some.injEq,Addr.mk.injEq,and_true]at hde;obtain⟨rfl,rfl⟩:=hde;have hhb:=aD r0;generalize qs.getD d Hold.zero=hh at*;obtain⟨rt,rm⟩:=hh;simp only at r0 r1 HAH;have u2:=aC hZ t2;have v0:=aC hZ y0;have lu:=aD u2;have lv:=aD v0;have hm1:m<=1048576:=by omega
         have ownD:=aF own ((Below.refl wz.heap.size wz).drew);clear own;go_wp2_with fail
         refine R0 (fun W'=>W'.cell? ⟨b,off+I'*3+2,O⟩=Y (Z (Y ⟨qb,qo,O⟩) nq cq)/\W'.cell? ⟨PX,0,O⟩=Y (I J qt)/\W'.cell? ⟨qb,qo+d*2,O⟩=Y (I J rt)/\Below wy.heap.size wy W') (⟨u2,v0,r0,hZ.drew⟩) (fun hH=>?_);refine R5 0 1 2 3 4 ?_;refine R5 5 6 7 8 9 ?_;refine R2 10 11 ?_;refine R6 12 (fun K hK=>?_);have hB9:W0<=wz.drew.heap.size:=by have:=(aG ownD g rfl);omega
         go_simp;refine(aV9 W0 g m c _ qt rt _ ownD hm1 hB9).mono ?_;rintro e w9⟨g9,m9,c9,rfl,own9,hm9,b9⟩;go_wp2_with fail
         refine hK.out _ _ ?_ (fun hH=>?_)
         .exact⟨aC b9 hH.1,aC b9 hH.2.1,aC b9 hH.2.2.1,hH.2.2.2.trans (b9.mono hH.2.2.2.size)⟩
         clear hK K;refine R1 13 ?_;refine R7 ?_;go_wp2;go_roundw;case rel=>exact⟨d+1,m9,g9,c9,by omega,by go_num,rfl,by rw[HAH.out,<-List.append_assoc,tW];exact own9,by omega,hH.2.2.2⟩
         case measure=>simp[intOf];omega
        .obtain rfl:d=k:=by omega
         go_wp2;go_roundw;case rel=>exact⟨d+1,m,g,c,by omega,by go_num,rfl,by rw[HQK.out];rw[<-HA1.out]at own;simpa only[List.append_assoc]using own,by omega,hXY.trans (hZ.mono hXY.size)⟩
         case measure=>simp[intOf];omega
    .obtain rfl:k=nq:=by omega
     go_wp2;go_roundw;case rel=>exact⟨I'+1,m,g,c,by omega,by go_num,rfl,by rw[HAN.out,<-HQ.out];exact own,by omega,hB.trans (hX.mono hB.size)⟩
     case measure=>simp[intOf];omega
  .obtain rfl:I'=n:=by omega
   have HTK:Hid (ls.take I'=ls):=by have:=HL.out;show _=_;rw[this];exact List.take_length
   rw[HTK.out]at own;go_wp2;go_ret;exact⟨g,m,c,rfl,by omega,hW0▸own,hB⟩
theorem uW:∀(K:Nat) (lo:Int) (l:List Int),l.Nodup->(∀x∈l,lo<=x/\x<lo+K)->l.length<=K:=by
 intro K;induction K with
 |zero=>
  intro lo l _ h;cases l with
  |nil=>simp
  |cons x l=>have:=h x (by simp);omega
 |succ K ih=>
  intro lo l hn h;have h1:=ih lo (l.filter fun x=>x !=lo+K) (hn.sublist (List.filter_sublist ..)) (fun x hx=>by obtain⟨h2,h3⟩:=List.mem_filter.1 hx;have:=h x h2;simp at h3;omega)
  have h2:l.length<=(l.filter fun x=>x !=lo+K).length+1:=by
   clear ih h h1;induction l with
   |nil=>simp
   |cons x l ihl=>
    rw[List.nodup_cons]at hn;rw[List.filter_cons];split
    .have:=ihl hn.2;simp only[List.length_cons];omega
    .rename_i hx
     have hx':x=lo+K:=by simpa using hx
     have:(l.filter fun x=>x !=lo+K)=l:=List.filter_eq_self.2 (fun y hy=>by simp only[bne_iff_ne,ne_eq];intro e;exact hn.1 (by rw[hx',<-e];exact hy))
     rw[this];simp
  omega
def eW(N:Nat)(ls:List Lock):Prop:=∀l∈ls,∀t,aV l.hs t=A'\/aV l.qs t=A'->1<=t/\t<=N
theorem aR7(h:KnownL e e.lk.length):eW e.tx.length e.lk:=by
 intro l hl t ht;obtain⟨k,hk,rfl⟩:=List.mem_iff_getElem.1 hl;have e1:aH e.lk k=e.lk[k]:=by simp[aH,List.getD,hk]
 obtain⟨h1,h2⟩:=h k hk;rw[e1]at h1 h2;have H:∀(hs:List Hold),KnownH e hs hs.length->aV hs t=A'->1<=t/\t<=e.tx.length:=by intro hs hk hh;obtain⟨x,hx,rfl⟩:=dH.1 hh;obtain⟨i,hi,rfl⟩:=List.mem_iff_getElem.1 hx;have:=hk i hi;rw[show hs.getD i Hold.zero=hs[i]by simp[List.getD,hi]]at this;unfold isT inB at this;simpa using this
 rcases ht with h|h
 .exact H _ h1 h
 .exact H _ h2 h
theorem kJ(h:aS ls=0)(hl:l∈ls):dF l=0/\0<=l.r:=by
 obtain⟨k,hk,rfl⟩:=List.mem_iff_getElem.1 hl;have e1:aH ls k=ls[k]:=by simp[aH,List.getD,hk]
 have:=iI ((eL h).1 k hk);rw[e1]at this;exact⟨this.2.2.2,this.1⟩
theorem uU(hg:aS ls=0)(h:eW N ls)(t:Int):eW N (jL ls t):=by
 intro x hx v hv;obtain⟨⟨l,hl,rfl⟩,_⟩:=wB.1 hx;have hG:=fN (kJ hg hl).1;obtain⟨a,ha,hb⟩:=yD (aI l.hs t) (aI l.qs t);have hqs:∀y∈aI l.qs t,y.t=v->1<=v/\v<=N:=by intro y hy e;refine h l hl v (.inr (dH.2 ⟨y,(gV.1 hy).1,e⟩))
 rcases hv with hv|hv
 .have h1:aV (dD (aI l.hs t) (aI l.qs t)).1 v=A':=hv;rw[aH6 (iZ hG.2.2.2.2.1 t),Bool.or_eq_true]at h1;rcases h1 with h1|h1
  .rw[nD]at h1;exact h l hl v (.inl (by revert h1;cases aV l.hs v<;>simp))
  .rw[hb]at h1;have h2:v∈a.map (·.t):=by simpa using h1
   obtain⟨y,hy,e⟩:=List.mem_map.1 h2;exact hqs y (by rw[ha];exact List.mem_append_left _ hy) e
 .have h1:aV (dD (aI l.hs t) (aI l.qs t)).2.1 v=A':=hv;obtain⟨y,hy,e⟩:=dH.1 h1;exact hqs y (by rw[ha];exact List.mem_append_right _ hy) e
theorem vM(hg:aS ls=0)(h:eW N ls):(cH ls).length<=N:=by
 have h1:=(qD _).1 (eL hg).2;have:=uW N 1 _ h1 (fun x hx=>by obtain⟨y,hy,rfl⟩:=List.mem_map.1 hx;unfold cH at hy;obtain⟨l,hl,hq⟩:=List.mem_flatMap.1 hy;have:=h l hl y.t (.inr (dH.2 ⟨y,hq,rfl⟩));omega)
 simpa using this
theorem vP(h:eW N ls)(hw:gZ ls v=A'):1<=v/\v<=N:=by
 rcases sF ls v with h1|⟨x,hx,hq⟩
 .rw[(sG h1).1]at hw;cases hw
 .exact h x hx v (.inr hq)
theorem aG6(hg:aS ls=0)(hw:gZ ls v=A'):(cH (jL ls v)).length<(cH ls).length:=by
 have hs:=vN ls v;rcases Nat.lt_or_ge (cH (jL ls v)).length (cH ls).length with h|h
 .exact h
 exfalso;have he:=hs.eq_of_length (Nat.le_antisymm hs.length_le h);rcases sF ls v with h1|⟨x,hx,hq⟩
 .rw[(sG h1).1]at hw;cases hw
 obtain⟨y,hy,e⟩:=dH.1 hq;have hm:y∈cH (jL ls v):=by rw[he];unfold cH;exact List.mem_flatMap.2 ⟨x,hx,hy⟩
 unfold cH at hm;obtain⟨z,hz,hm⟩:=List.mem_flatMap.1 hm;obtain⟨⟨l,hl,rfl⟩,_⟩:=wB.1 hz;have h2:=(bS3 (Ch.Gd.of (kJ hg hl).1) v).2;rw[dH.2 ⟨y,hm,e⟩]at h2;cases h2
theorem aJ7(hg:aS ls=0)(h:eW N ls){e:Hold}(he:e∈gU ls):(1<=e.t/\e.t<=N)/\(1<=e.m/\e.m<=N)/\e.t≠e.m/\gZ ls e.t=A':=by
 obtain⟨h1,h2⟩:=bF3 hg he;refine⟨vP h h1,?_,h2,h1⟩;obtain⟨l,hl,i,hi,hm⟩:=aS9.1 he;rcases List.mem_append.1 hm with hm|hm
 .unfold jF at hm;obtain⟨x,hx,rfl⟩:=List.mem_map.1 hm;exact h l hl x.t (.inl (dH.2 ⟨x,(List.mem_filter.1 hx).1,rfl⟩))
 .unfold kG at hm;obtain⟨x,hx,rfl⟩:=List.mem_map.1 hm;exact h l hl x.t (.inr (dH.2 ⟨x,List.mem_of_mem_take hx,rfl⟩))
theorem yO(hg:aS ls=0)(h:eW N ls)(hN:N<=20):eO (eM (gU ls))=0:=by
 have hin:=fun e (he:e∈eM (gU ls))=>aJ7 hg h (wI.1 he);have hs:=bG6 (gU ls);unfold yC at hs;have hp:((eM (gU ls)).map fun e=>e.t*20+e.m).Nodup:=by rw[List.Nodup,List.pairwise_map];refine List.Pairwise.imp_of_mem (fun{a b} ha hb hlt=>?_) hs;obtain⟨⟨_,_⟩,⟨a3,a4⟩,_⟩:=hin a ha;obtain⟨⟨_,_⟩,⟨b3,b4⟩,_⟩:=hin b hb;rcases rC.1 hlt with h1|⟨h1,h2⟩<;>omega
 have hl:=uW 400 21 _ hp (fun x hx=>by obtain⟨e,he,rfl⟩:=List.mem_map.1 hx;obtain⟨⟨_,_⟩,⟨_,_⟩,_⟩:=hin e he;omega)
 rw[List.length_map]at hl;unfold eO;rw[if_neg (by omega),if_neg];intro ha;obtain⟨e,he,hb⟩:=List.any_eq_true.1 ha;obtain⟨⟨_,_⟩,⟨_,_⟩,hne,_⟩:=hin e he;unfold lI inB at hb;simp at hb;omega
theorem bA2(hg:aS ls=0)(h:eW N ls)(hN:N<=20)(ht:inB t 1 999=A')(hc:¬(fF (prE (eM (gU ls))) t).length=0):
  ∃v,(iE (fF (prE (eM (gU ls))) t) sys).1=v/\1<=v/\v<=N/\aS (jL ls v)=0/\eW N (jL ls v)/\(cH (jL ls v)).length<(cH ls).length:=by
 have hf:=yO hg h hN;have hT:rL (eM (gU ls)) t=0:=by unfold rL;rw[hf,ht];rfl
 obtain⟨_,_,_,h4,_⟩:=aZ2 hT hc;generalize fF (prE (eM (gU ls))) t=cyc at*;have hw:∀v∈cyc,gZ ls v=A':=by intro v hv;obtain⟨i,hi,rfl⟩:=List.mem_iff_getElem.1 hv;have h5:=h4 i hi;have:=(aJ7 hg h (wI.1 h5)).2.2.2;simpa[List.getD,hi]using this
 have hin:∀v∈cyc,inB v 1 999=A':=by intro v hv;have:=vP h (hw v hv);unfold inB;simp;omega
 have h6:=bE7 (cS0 (sys:=sys) (by omega) hin);have h7:nT cyc sys∈cyc:=by simpa using h6.2.1
 have h8:=hw _ h7;obtain⟨h9,h10⟩:=vP h h8;exact⟨_,bE8 cyc sys hin,h9,h10,aC7 hg _,uU hg h _,aG6 hg h8⟩
theorem bC1(hg:aS ls=0)(h:dZ ls t<0):gZ ls t=F':=by
 rcases sF ls t with h1|⟨x,hx,hq⟩
 .exact(sG h1).1
 .have:=(aY0 (eL hg).2 hx hq).2;have h2:=(kJ hg hx).2;omega
theorem aR8(h:eW N ls)(r:Int):eW N (bO r ls):=by
 unfold bO;split
 .exact h
 .intro l hl t ht;rw[List.mem_append,List.mem_append]at hl;rcases hl with(hl|hl)|hl
  .exact h l (List.mem_of_mem_take hl) t ht
  .rw[List.mem_singleton.1 hl]at ht;rcases ht with h1|h1<;>cases h1
  .exact h l (List.mem_of_mem_drop hl) t ht
theorem bB8(h2:cP l.hs=F')(h:∀v,aV l.hs v=A'\/aV l.qs v=A'->1<=v/\v<=N){m:Int}(ht:1<=t/\t<=N):∀v,aV (cO l t m).2.2.hs v=A'\/aV (cO l t m).2.2.qs v=A'->1<=v/\v<=N:=by
 intro v hv;have hE:∀k (x:Hold),x.t=t->aV (dP l k x).2.2.hs v=A'\/aV (dP l k x).2.2.qs v=A'->1<=v/\v<=N:=by
  intro k x hx;unfold dP;split
  .exact h v
  .intro h3;simp only at h3;rcases h3 with h3|h3
   .exact h v (.inl h3)
   .obtain⟨y,hy,e⟩:=dH.1 h3;rw[List.mem_append,List.mem_append]at hy;rcases hy with(hy|hy)|hy
    .exact h v (.inr (dH.2 ⟨y,List.mem_of_mem_take hy,e⟩))
    .rw[List.mem_singleton.1 hy,hx]at e;omega
    .exact h v (.inr (dH.2 ⟨y,List.mem_of_mem_drop hy,e⟩))
 unfold cO at hv;split at hv
 .exact h v hv
 .split at hv
  .exact hE _ _ rfl hv
  .split at hv
   .exact hE _ _ rfl hv
   .split at hv
    .exact h v hv
    .simp only at hv;rw[tN h2,Bool.or_eq_true]at hv;rcases hv with(hv|hv)|hv
     .exact h v (.inl hv)
     .simp at hv;omega
     .exact h v (.inr hv)
theorem bU3{r m:Int}(hg:aS ls=0)(h:eW N ls)(hN:N<=20)(ht:1<=t/\t<=N)(hr:inB r 0 100=A')(hm:inB m 1 5=A')(hw:dZ ls t<0)(h0:(iT ls t r m).1=0):
  aS (iT ls t r m).2.2=0/\eW N (iT ls t r m).2.2/\dC (iT ls t r m).2.2<=5000:=by
 have hc:(lA ls t r m).2.1=0:=by
  unfold iT at h0;split at h0
  .exact h0
  .rename_i h1;simpa using h1
 have he:(iT ls t r m).2.2=gQ ls t r m:=by unfold iT;rw[hc];rfl
 have ht':inB t 1 999=A':=by unfold inB;simp;omega
 rw[he];refine⟨cG9 hg ht' hr hm (bC1 hg hw) hc,?_,bH3 hg t r m⟩;have hW:=aR8 h r;intro l hl v hv;unfold gQ at hl;rcases List.mem_or_eq_of_mem_set hl with h1|rfl
 .exact hW l h1 v hv
 .unfold lA at hv;have hx:(∃x∈bO r ls,aH (bO r ls) (aX r ls)=x)\/aH (bO r ls) (aX r ls)=Lock.zero:=by
   by_cases hk:aX r ls<(bO r ls).length
   .exact .inl ⟨_,List.getElem_mem hk,by simp[aH,List.getD,hk]⟩
   .exact .inr (by simp[aH,List.getD,hk])
  have h2:cP (aH (bO r ls) (aX r ls)).hs=F':=by
   rcases hx with⟨x,hx,e⟩|e
   .rw[e];unfold bO at hx;split at hx
    .exact(fN (kJ hg hx).1).2.2.2.2.1
    .rw[List.mem_append,List.mem_append]at hx;rcases hx with(hx|hx)|hx
     .exact(fN (kJ hg (List.mem_of_mem_take hx)).1).2.2.2.2.1
     .rw[List.mem_singleton.1 hx];rfl
     .exact(fN (kJ hg (List.mem_of_mem_drop hx)).1).2.2.2.2.1
   .rw[e];rfl
  refine bB8 h2 (fun v hv=>?_) ht v hv;rcases hx with⟨x,hx,e⟩|e
  .rw[e]at hv;exact hW x hx v hv
  .rw[e]at hv;rcases hv with h3|h3<;>cases h3
theorem aC3(b:Nat)(s:EgS)(e:Eng)(t:Int)(w:World)(h:EgP w b s e):
  Calls prog 149 #[.pointer (Y ⟨b,0,O⟩),I J t] w fun r w'=>(∃c,r=R' (I J c)/\(c=0->Ch.Good e/\isT e t=A'))/\Below w.heap.size w w':=by
 go_enter func149,ntmps149
 go_wp2_with fail
 refine(aC4 b s e _ h).mono ?_;rintro r1 w1⟨⟨c,rfl,hc⟩,hB⟩;have HC:=hid hc;clear hc;cases hcc:(c !=0)
 .have HG:Hid (Ch.Good e):=HC.out (by simpa using hcc);clear HC;go_wp2_with fail
  refine(nX b s e t _ (h.below hB)).mono ?_;rintro r2 w2⟨rfl,hw2⟩;obtain rfl:=hw2.symm;cases hi:isT e t
  .go_wp2;go_ret;exact⟨⟨3,rfl,fun h=>absurd h (by decide)⟩,hB⟩
  .go_wp2;go_ret;exact⟨⟨0,rfl,fun _=>⟨HG.out,hi⟩⟩,hB⟩
 .go_wp2;go_ret;exact⟨⟨c,rfl,fun h0=>absurd h0 (by simpa using hcc)⟩,hB⟩
def dU(c:Int):Array Value:=#[I J c,X F',I J 0,Z O 0 0,Z O 0 0,Z O 0 0,Z O 0 0,Z O 0 0,Z O 0 0,Z O 0 0,Z O 0 0,Z O 0 0,X F',Z O 0 0,Z O 0 0]
theorem eY(c:Int)(w:World):
  Calls prog 102 #[I J c] w fun r w'=>r=R' (U (dU c))/\Below w.heap.size w w':=by
 go_enter func102,ntmps102
 go_wp2;exact bodyPost_ret (v:=U (dU c)) (results_cell_row Tryz.results102 _ _ w.heap.size 112 (dU c) (0,0) _ rfl (aO rfl) underlying112 rfl (by kernel_rfl)) rfl ⟨rfl,q'⟩
def dH6(s:EgS)(w:World)(r:Ending)(w':World):Prop:=(∃x,r=R' (X x)/\(x=F'->s.an<=199))/\Below w.heap.size w w'
theorem aJ9(k p q v tx:Int)(i:Nat)(b:Nat)(s:EgS)(e:Eng)(w:World)(h:EgP w b s e)(hi:i<s.tn)(htx:tx=(i:Int)+1):
  Calls prog 150 #[.pointer (Y ⟨b,0,O⟩),I J tx,U #[I J k,I J p,I J q,I J v]] w (dH6 s w):=by
 have hn4:=h.2.n4;have hw:IntKind.i64.wrap (tx-1)=(i:Int):=by rw[htx,show(i:Int)+1-1=(i:Int)by omega];exact IntWalk.i64_in _ ⟨by omega,by omega⟩
 clear htx;have hbA:=f' w (M #[I J k,I J p,I J q,I J v] 54);have o0:(w.alloc (M #[I J k,I J p,I J q,I J v] 54)).heap[w.heap.size]? =Y (M #[I J k,I J p,I J q,I J v] 54 (0,0)):=aO rfl;have hA:=h.below hbA;have hbl:=hA.lt;have c0:(w.alloc (M #[I J k,I J p,I J q,I J v] 54)).cell? ⟨w.heap.size,0,O⟩=Y (I J k):=cell_of_row _ _ 0 _ _ _ o0;obtain⟨_,_,_,x3,_,_,_,_,_,x9⟩:=hA.all;obtain⟨g,off,au,nu,cu,hta,_,_,_,t3,_,_,_,_,_,hnu⟩:=hA.2.tx.txn hi;rw[hta]at x3;clear hta o0;have hg:=aD t3;have hol:=aD c0;go_enter func150,ntmps150
 by_cases ha:200<=s.an
 .have ha':(200:Int)<=(s.an:Int):=by omega
  go_wp2;go_ret;exact⟨⟨A',rfl,fun h=>by cases h⟩,hbA⟩
 have ha':¬(200:Int)<=(s.an:Int):=by omega
 have hq:s.an<=199:=by omega
 have HQ:=hid hq;clear ha hq;go_upto_region 3 with fail
 generalize w.alloc (M #[I J k,I J p,I J q,I J v] 54)=wA at*;by_cases hk:k=2\/k=3
 .by_cases hu:40<=nu
  .have hu':(40:Int)<=(nu:Int):=by omega
   rcases hk with rfl|rfl;all_goals
    go_wp2;go_ret;exact⟨⟨A',rfl,fun h=>by cases h⟩,hbA⟩
  .have hu':¬(40:Int)<=(nu:Int):=by omega
   rcases hk with rfl|rfl;all_goals
    go_wp2_with fail
    refine(xM b s e _ hA).mono ?_;rintro r w1⟨rfl,hw1⟩;go_wp2;go_ret;exact⟨⟨_,rfl,fun _=>HQ.out⟩,hbA.trans (hw1.mono hbA.size)⟩
 .have k2:(k==2)=F':=by simp;omega
  have k3:(k==3)=F':=by simp;omega
  go_wp2;go_ret;exact⟨⟨F',rfl,fun _=>HQ.out⟩,hbA⟩
structure EgF(s s':EgS):Prop where
 tn:s'.tn=s.tn
 wal:s'.sn+s'.on<=s.sn+s.on+500
 mn:s'.mn<=s.mn+1
 xn:s'.xn<=s.xn+300
 an:s'.an<=s.an
theorem mR(p0:P 0)(p1:P 1)(p2:P 2)(p3:P 3)(p4:P 4)(p5:P 5)(p6:P 6)(p7:P 7):∀i,i<8->P i:=by
 intro i hi;match i,hi with
 |0,_=>exact p0
 |1,_=>exact p1
 |2,_=>exact p2
 |3,_=>exact p3
 |4,_=>exact p4
 |5,_=>exact p5
 |6,_=>exact p6
 |7,_=>exact p7
theorem cI3{xs ys:List Int}(h:IsB xs)(h':IsB ys):IsB (xs++ys):=by
 intro i;rcases Nat.lt_or_ge i xs.length with hi|hi
 .have:=h i;simpa[List.getD,List.getElem?_append_left hi]using this
 .have:=h' (i-xs.length);simpa[List.getD,List.getElem?_append_right hi]using this
theorem EgX.drew{b o:Nat}{t:TypeId}{s:EgS}(h:EgX W T b o cs t s e):EgX W.drew T b o cs t s e:=⟨h.own.kept (fun _ _ _=>jN),h.box,h.cell,h.tag⟩
theorem Stp.drew(T:Nat->Nat)(W:World)(o:Nat)(cs:Array Value):Stp T T W W.drew o cs cs:=⟨rfl,rfl,rfl,z',jN,jN,fun _ _=>rfl,rfl⟩
def ComQ(T:Nat->Nat)(w:World)(b o:Nat)(cs:Array Value)(t:TypeId)(s:EgS)(r:Ending)(w':World):Prop:=
 r=R' (.tuple #[])/\∃T' cs' s' e',EgX w' T' b o cs' t s' e'/\Stp T T' w w' o cs cs'/\EgF s s'
theorem aZ5(tx:Int)(k:Nat)(w:World)(T:Nat->Nat)(b o:Nat)(cs:Array Value)(t:TypeId)(s:EgS)(e:Eng)(h:EgX w T b o cs t s e)(hk:k<s.tn)(htx:tx=(k:Int)+1)(ht:inB tx 1 999=A')(hlk:aS e.lk=0)(hon:s.sn+s.on+500<=4100000)(hmn:s.mn+1<=1048576):
  Calls prog 215 #[.pointer (Y ⟨b,o,O⟩),I J tx] w (ComQ T w b o cs t s):=by
 have hn4:=h.own.n4;have hw:IntKind.i64.wrap (tx-1)=(k:Int):=by rw[htx,show(k:Int)+1-1=(k:Int)by omega];exact IntWalk.i64_in _ ⟨by omega,by omega⟩
 have HTX:=hid htx;clear htx;have hfe:Rec.Fit ⟨4,tx,0,F',0,F',0⟩:=⟨by show(1:Int)<=4/\(4:Int)<=5;omega,fM ht,by show(0:Int)<=0/\(0:Int)<=99;omega,by show(0:Int)<=0/\(0:Int)<=9999;omega,by show(0:Int)<=0/\(0:Int)<=9999;omega,fun _=>⟨rfl,rfl,rfl,rfl,rfl⟩⟩
 obtain⟨us,hT⟩:=h.own.tx;obtain⟨tb,hta⟩:=hT.place (by omega);have HTA:=hid hta;clear hta hT;have HKL:=h.own.lk.len;have hbl:=h.lt;go_enter func215,ntmps215
 go_wp2_with(refine(oY 4 tx 0 F' 0 F' 0 _ _ b o _ t _ _ h hfe (by omega)).mono ?_;rintro r W1⟨rfl,T1,c1,a1,n1,k1,lo1,hX1,hn1,hS1⟩)
 have hs1:({s with oa:=a1,on:=n1,oc:=k1}:EgS).ta=s.ta/\({s with oa:=a1,on:=n1,oc:=k1}:EgS).tn=s.tn/\({s with oa:=a1,on:=n1,oc:=k1}:EgS).sn=s.sn/\({s with oa:=a1,on:=n1,oc:=k1}:EgS).on=n1/\({s with oa:=a1,on:=n1,oc:=k1}:EgS).mn=s.mn/\({s with oa:=a1,on:=n1,oc:=k1}:EgS).an=s.an/\({s with oa:=a1,on:=n1,oc:=k1}:EgS).xn=s.xn/\({s with oa:=a1,on:=n1,oc:=k1}:EgS).kn=s.kn:=⟨rfl,rfl,rfl,rfl,rfl,rfl,rfl,rfl⟩
 have he1:({e with lo:=lo1}:Eng).lk=e.lk:=rfl;generalize({s with oa:=a1,on:=n1,oc:=k1}:EgS)=s1 at hX1 hs1;generalize({e with lo:=lo1}:Eng)=e1 at hX1 he1;obtain⟨p1,p2,p3,p4,p5,p6,p7,p8⟩:=hs1;have HTA1:Hid (s1.ta=Y ⟨tb,0,O⟩):=p1.trans HTA.out;have hk1:k<s1.tn:=by omega
 have hon1:s1.sn+s1.on+450<=4100000:=by omega
 have hmn1:s1.mn+1<=1048576:=by omega
 have HP:Hid (s1.tn=s.tn/\s1.sn+s1.on<=s.sn+s.on+11/\s1.mn=s.mn/\s1.xn=s.xn/\s1.an=s.an):=⟨p2,by omega,p5,p7,p6⟩
 have HKL1:Hid (s1.kn=e.lk.length):=p8.trans HKL.out;have HE1:=hid he1;clear p1 p2 p3 p4 p5 p6 p7 p8 he1 HKL;have y5:=hX1.all.2.2.2.2.2.1;have y4:=hX1.all.2.2.2.2.1;have hbl1:=hX1.lt;refine R0 (fun W'=>W'.cell? ⟨b,o+5,O⟩=Y (Z s1.oa s1.on s1.oc)) (y5) (fun hH=>?_);replace hX1:=hX1.drew;replace hS1:=hS1.trans (Stp.drew T1 W1 o c1);have hlo:=hX1.own.lo.cells;refine R5 0 1 2 3 4 ?_;refine R5 6 7 8 9 10 ?_;refine R6 5 (fun K hK=>?_);go_simp;refine hK.out _ _ ?_ (fun hH=>?_)
 .exact hH
 clear hK K;refine R6 11 (fun K hK=>?_);refine lH aA0 (.tmp 13) (.tmp 18) rfl rfl 0 (Z s1.sa s1.sn s1.sc) s1.sn (bts e1.su) s1.oa s1.on s1.oc (bts e1.lo) rfl rfl hX1.own.su.1 hlo (yK _) (by omega) (Nat.zero_le _) ?_;intro a9 c9 W9 o9 gr9 at9;rw[show bts e1.su++bts e1.lo=bts (e1.su++e1.lo)by simp[bts]]at o9;have hI9:=hX1.addSu (cI3 hX1.own.bsu hX1.own.blo) (by omega) o9 gr9 at9;have hb9:=(aY hX1.box hX1.tag (dS gr9 (fun g hg=>hX1.own.su.2 g hg) (by decide:1≠4))).1;have z4:W9.cell? ⟨b,o+4,O⟩=Y (Z s1.sa s1.sn s1.sc):=(cell_of_row _ b (o+4) _ _ _ hb9).trans (hX1.cell 4 (by decide));have z5:W9.cell? ⟨b,o+5,O⟩=Y (Z s1.oa s1.on s1.oc):=(cell_of_row _ b (o+5) _ _ _ hb9).trans (hX1.cell 5 (by decide));have f9:=frozen_of_row _ b (o+4) _ _ hb9;refine hK.out _ _ ?_ (fun hH=>?_)
 .exact z5
 clear hK K;refine J3 ?_;refine R3 12 13 14 ?_;refine R6 15 (fun K hK=>?_);go_simp;refine hK.out _ _ ?_ (fun hH=>?_)
 .exact hI9.1.all.2.2.2.2.2.1
 clear hK K;refine R7 ?_;have hXA:=hI9.1;have hSA:=hS1.trans hI9.2;clear hI9 o9 gr9 at9 hb9 z4 z5 f9 hX1 hS1 hlo y5 y4 hH;generalize W9.setCell ⟨b,o+4,O⟩ (Z a9 (s1.sn+s1.on) c9)=WA at*;generalize c1.setIfInBounds (o+4) (Z a9 (s1.sn+s1.on) c9)=cA at*;have hTA:s1.ta=Y ⟨tb,0,O⟩:=HTA1.out;have y5:=hXA.all.2.2.2.2.2.1;have f5:=hXA.frz (o+5);have hblA:=hXA.lt;go_upto_region 3 with fail
 have hXB:=hXA.noLo.1;have hSB:=hSA.trans hXA.noLo.2;clear hXA hSA y5 f5 hblA;generalize WA.setCell ⟨b,o+5,O⟩ (Z O 0 0)=WB at*;generalize cA.setIfInBounds (o+5) (Z O 0 0)=cB at*;obtain⟨⟨v2,z2⟩,⟨v3,z3⟩,_,_,_,_,fz⟩:=hXB.cellsTx hTA hk1;have y3:=hXB.all.2.2.2.1;simp only at y3;rw[hTA]at y3;have fz3:=fz (k*8+3);have hblB:=hXB.lt;have htlB:=aD z3;go_upto_region 4 with fail
 have hC:=hXB.noUndo hTA hk1;have hSC:=hSB.trans hC.2;have hXC:=hC.1;clear hXB hSB y3 z2 z3 fz3 fz hC hblB htlB;generalize WB.setCell ⟨tb,k*8+3,O⟩ (Z O 0 0)=WC at*;obtain⟨⟨v2,z2⟩,⟨v3,z3⟩,_,_,_,_,fz⟩:=hXC.cellsTx hTA hk1;have y3:=hXC.all.2.2.2.1;simp only at y3;rw[hTA]at y3;have fz2:=fz (k*8+2);have hblC:=hXC.lt;have htlC:=aD z2;go_upto_region 5 with fail
 have hD:=hXC.setTx (j:=2) (v:=I J 3) (t':={aQ _ k with st:=3}) hTA hk1 (by decide) (fun x=>mR rfl rfl rfl rfl rfl rfl rfl rfl) rfl;have hSD:=hSC.trans hD.2;have hXD:=hD.1;clear hXC hSC y3 z2 z3 fz2 fz hD hblC htlC;generalize WC.setCell ⟨tb,k*8+2,O⟩ (I J 3)=WD at*;have y8:=hXD.all.2.2.2.2.2.2.2.2.1;have hblD:=hXD.lt;have hbE:=f' WD (M #[I J tx] 2);have hXE:=hXD.below hbE 8;have hSE:=hSD.trans (Stp.below o cB hbE 8);have hN:=jP WD tx 2;go_upto_region 6 with
  (at_builtin
   refine aD8 uG (.tmp 47) (.tmp 49) ?_ ?_ 0 (Z s1.ma s1.mn s1.mc) s1.mn (icells e1.cm) (Y ⟨WD.heap.size,0,O⟩) 1 1 (icells [tx]) ?_ ?_ hXE.own.cm.1 hN (dN _) (by omega) (Nat.zero_le _) ?_;exact rfl;exact rfl;exact rfl;exact rfl;intro a9 c9 W9 o9 gr9 at9;rw[show icells e1.cm++icells [tx]=icells (e1.cm++[tx])by simp[icells]]at o9;have hI9:=hXE.addCm (z:=tx) (by show s1.mn+1<=1048576;omega) o9 gr9 at9;have hb9:=(aY hXE.box hXE.tag (dS gr9 (fun g hg=>hXE.own.cm.2 g hg) (by decide:1≠6))).1;have z8:W9.cell? ⟨b,o+8,O⟩=Y (Z s1.ma s1.mn s1.mc):=(cell_of_row _ b (o+8) _ _ _ hb9).trans (hXE.cell 8 (by decide));have f9:=frozen_of_row _ b (o+8) _ _ hb9;clear hb9 hN o9 gr9 at9)
 have hXF:=hI9.1;have hSF:=hSE.trans hI9.2;clear hI9 hXD hSD y8 hblD hbE hXE hSE z8 f9;generalize W9.setCell ⟨b,o+8,O⟩ (Z a9 (s1.mn+1) c9)=WF at*;have hLk9:=hXF.own.lk.sub fI;simp only at hLk9;rw[HE1.out]at hLk9;have y2:=hXF.all.2.2.1;have hblF:=hXF.lt;go_wp2_with fail
 refine(xR _ _ _ tx e.lk _ hLk9 (by have:=mK hlk;have:=HKL1.out;omega) (fun i hi=>by have:=qN hlk (show i<e.lk.length by have:=HKL1.out;omega);exact⟨this.1,this.2.1,this.2.2.1,this.2.2.2.1⟩)).mono ?_;rintro r WG⟨aA,mA,cA',aB,mB,cB',rfl,_,_,hLkA,hbA⟩;have hXG:=hXF.below hbA 0;have hSG:=hSF.trans (Stp.below o _ hbA 0);have hset:=EgX.set (i:=2) (v:=Z aB mB cB') hXG.box hXG.cell hXG.tag (hXG.own.newLk (c:=cB') (hLkA.seen (jM _ _)) (by have:=sM hlk tx;omega)) (by decide) rfl;have yA:=hXG.all.2.2.1;have fA:=hXG.frz (o+2);have hblA:=hXG.lt;go_wp2;exact bodyPost_end (results_none rfl _ _ _) rfl ⟨rfl,_,_,_,_,hset.1,hSG.trans hset.2,by obtain⟨p2,p3,p5,p7,p6⟩:=HP.out;exact⟨p2,by simp only;omega,by simp only;omega,by simp only;omega,Nat.le_of_eq p6⟩⟩
def dI2(tx:Int)(T:Nat->Nat)(w:World)(b o:Nat)(cs:Array Value)(t:TypeId)(s:EgS)(e:Eng)(r:Ending)(w':World):Prop:=
 r=R' (.tuple #[])/\∃T' cs' s' e',EgX w' T' b o cs' t s' e'/\Stp T T' w w' o cs cs'/\EgC 1 1 s s' e e'/\e'.lk=(dG e.lk tx).filter iD/\s'.an=s.an+1
theorem yP(tx:Int)(k:Nat)(w:World)(T:Nat->Nat)(b o:Nat)(cs:Array Value)(t:TypeId)(s:EgS)(e:Eng)(h:EgX w T b o cs t s e)(hk:k<s.tn)(htx:tx=(k:Int)+1)(ht:inB tx 1 999=A')(hlv:aL e.lv=0)(hlk:aS e.lk=0)(hbf:cT (aQ e.tx k).un=0)(hon:s.on+500<=4100000)(hxn:s.xn+50<=1048575)(han:s.an+1<=1048576):
  Calls prog 186 #[.pointer (Y ⟨b,o,O⟩),I J tx] w (dI2 tx T w b o cs t s e):=by
 have GW:=aK0 tx k w T b o cs t s e h hk htx ht hlv hlk hbf hon hxn;have hbl:=h.lt;clear htx hk ht hlv hlk hbf;go_enter func186,ntmps186
 go_wp2_with first
  |(refine GW.mono ?_
    rintro r W1⟨rfl,T1,c1,s1,e1,hX1,hS1,hC1,hl1,hq1⟩;have HQ1:=hid hq1;clear hq1;have hbl1:=hX1.lt;have y9:=hX1.all.2.2.2.2.2.2.2.2.2;have hbA:=f' W1 (M #[I J tx,I J 7,I J 0,I J 0,I J 0,Z O 0 0] 56);have hX2:=hX1.below hbA 8;have hS2:=hS1.trans (Stp.below o c1 hbA 8);have hN:=zK W1 ⟨tx,7,0,0,0,[]⟩ (Z O 0 0);simp only at hN;obtain⟨us,hAc⟩:=hX2.own.ac;obtain⟨ys,hr,hcs⟩:=hAc.row;have HCS:=hid hcs;have ha1:=hC1.an;clear hcs)
  |(at_builtin
    refine aD8 aT1 (.tmp 11) (.tmp 15) ?_ ?_ 0 (Z s1.aa s1.an s1.ac) s1.an ys (Y ⟨W1.heap.size,0,O⟩) 1 1 (acc6 ⟨tx,7,0,0,0,[]⟩ (Z O 0 0)) ?_ ?_ hr.1 hN (rI _ _ _ _) (by omega) (Nat.zero_le _) ?_;exact rfl;exact rfl;exact rfl;exact rfl;intro a9 c9 W9 o9 gr9 at9;have hI9:=hX2.addAct (r:=⟨tx,7,0,0,0,[]⟩) hAc hr HCS.out ⟨World.ownsRow_nil _ _ _ _,fun g hg=>by simp[Value.ownBlock]at hg⟩ (by simp) (by omega) o9 gr9 at9;have hb9:=(aY hX2.box hX2.tag (dS gr9 (fun g hg=>hr.2 g hg) (by decide:1≠7))).1;have z9:W9.cell? ⟨b,o+9,O⟩=Y (Z s1.aa s1.an s1.ac):=(cell_of_row _ b (o+9) _ _ _ hb9).trans (hX2.cell 9 (by decide));have f9:=frozen_of_row _ b (o+9) _ _ hb9;clear hb9 hAc hr HCS hN o9 gr9 at9)
 exact bodyPost_end (results_none rfl _ _ _) rfl ⟨rfl,_,_,_,_,hI9.1,hS2.trans hI9.2,⟨hC1.lv,hC1.tn,hC1.sn,hC1.mn,hC1.on,hC1.xn,by simp only;omega,hC1.un,hC1.tl⟩,hl1,by have:=HQ1.out;(try simp only);omega⟩
end Go.Proofs.YtpbbokalojdooaaGreat
