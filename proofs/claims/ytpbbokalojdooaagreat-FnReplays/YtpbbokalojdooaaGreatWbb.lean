import Derived.Test.YtpbbokalojdooaaGreatWau
import Derived.Test.YtpbbokalojdooaaGreatWaz
namespace Go.Proofs.YtpbbokalojdooaaGreat
open Go.RowKit Ch Go.Proofs.Tryz
set_option linter.unusedSimpArgs false
set_option linter.unusedVariables false
set_option maxRecDepth 20000
set_option maxHeartbeats 8000000
open Value renaming int->I,slice->Z,bool->X,agg->U
open IntKind renaming i64->J
open Option renaming none->O,some->Y
open Obj renaming cells->M
open Ending renaming returned->R'
open Bool renaming true->A',false->F'
variable {C8 C9:Array Value} {s:EgS} {e:Eng} {zs:List Row} {cs news xs:List Value} {B O' c' g k m o q sz:Nat} {T:Nat->Nat} {us:Nat->Value} {A a' a2 a6:Option Addr} {row:Option Nat} {st:Rp} {t:TypeId} {u u0 u1 u2 u3 u4 u5 v x z:Value} {W W1 W6 w w' wr:World}
structure RpQ(w:World)(O':Nat)(st:Rp)(W:World)(a':Option Addr)(m c':Nat):Prop where
 cr:W.heap[w.heap.size]? =Y (M #[I J 0,X F',Z O 0 0] 49 (0,0))
 co:W.heap[O']? =Y (M #[I J 0,X st.ok,Z a' m c'] 49 (0,0))
 own:W.ownsRow (w.heap.size+1) 86 3 (Z a' m c') m (rcells (Ch.rowsS st.s))
 ap:(Z a' m c').ownBlock≠Y O'
 lo:w.heap.size<O'
 sz:O'+1<=W.heap.size
 bel:V' w W
theorem RpQ.below{A B:World}(h:RpQ w O' st A a' m c')(hb:V' A B):RpQ w O' st B a' m c':=
 ⟨fF hb h.cr,fF hb h.co,aG h.own hb,h.ap,h.lo,Ak h.sz hb.size,h.bel.trans (hb.mono h.bel.size)⟩
theorem RpQ.ok(h:RpQ w O' st W a' m c')(b:Bool):RpQ w O' ⟨st.s,b⟩ (W.setCell ⟨O',1,O⟩ (X b)) a' m c':=by have h1:=h.lo;have hg:W.grownBy (W.setCell ⟨O',1,O⟩ (X b)) (Y O'):=pJ;refine⟨cV hg h.cr (by simp;omega),?_,aN h.own hg (fun g hg' e=>h.ap (hg'.trans e.symm)),h.ap,h1,by simpa using h.sz,h.bel.setCell (p:=⟨O',1,O⟩) (by simp;omega) _⟩;have:=Ah (i:=1) h.co (X b);simpa using this
theorem RpQ.rows(h:RpQ w O' st W a' m c'){S:Sl}{m2 c2:Nat}(ho:W.ownsRow (O'+1) 86 3 (Z a2 m2 c2) m2 (rcells (Ch.rowsS S))):RpQ w O' ⟨S,st.ok⟩ (W.setCell ⟨O',2,O⟩ (Z a2 m2 c2)) a2 m2 c2:=by have h1:=h.lo;have hg:W.grownBy (W.setCell ⟨O',2,O⟩ (Z a2 m2 c2)) (Y O'):=pJ;have hne:(Z a2 m2 c2).ownBlock≠Y O':=tG ho (by omega);refine⟨cV hg h.cr (by simp;omega),?_,aQ (aN ho hg (fun g hg' e=>hne (hg'.trans e.symm))) (by omega),hne,h1,by simpa using h.sz,h.bel.setCell (p:=⟨O',2,O⟩) (by simp;omega) _⟩;have:=Ah (i:=2) h.co (Z a2 m2 c2);simpa using this
theorem aO9(h:W.heap[g]? =Y (M #[u0,u1,u2] t (0,0))):
  W.cell? ⟨g,0,O⟩=Y u0/\W.cell? ⟨g,1,O⟩=Y u1/\W.cell? ⟨g,2,O⟩=Y u2:=
 ⟨C' h,C' h,C' h⟩
theorem bU0(h:w.ownsRow B 86 3 v m (rcells zs)):m=zs.length:=by have:=h.1;rw[gG]at this;omega
theorem bO9(kd:Int):kd=2\/kd=3\/((kd==2)=F'/\(kd==3)=F'):=by
 by_cases h1:kd=2
 .exact .inl h1
 .by_cases h4:kd=3
  .exact .inr (.inl h4)
  .exact .inr (.inr ⟨by simpa using h1,by simpa using h4⟩)
theorem aT9(a:Option Addr)(n cap:Nat)(base:List Row)(a1:Option Addr)(n1 cap1:Nat)(ts:List Ac)(a2:Option Addr)(n2 cap2:Nat)(cs:List Int)(w:World)(h:CellsAt w a (n*3) (rcells base))(h1:AcAt w a1 n1 ts)(h2:CellsAt w a2 (n2*1) (icells cs))(hn:n<=1048576)(hn1:n1<=1048576)(hn2:n2<=1048576)(hF:fJ base ts cs=0):
  Calls prog 53 #[Z a n cap,Z a1 n1 cap1,Z a2 n2 cap2] w fun e w'=>∃a' m c',e=R' (U #[I J 0,X (eU ts cs ⟨cX base base.length,A'⟩ cs.length).ok,Z a' m c'])/\m<=100/\w'.ownsRow w.heap.size 86 3 (Z a' m c') m (rcells (Ch.rowsS (eU ts cs ⟨cX base base.length,A'⟩ cs.length).s))/\V' w w':=by
 obtain⟨hFa,hFb,hFc⟩:=lI hF;obtain⟨stE,HstE⟩:∃stE,Hid (eU ts cs ⟨cX base base.length,A'⟩ cs.length=stE):=⟨_,rfl⟩
 rw[HstE.out];have HBr:=hid (yX hFb);have HFz:=hid (jA hFa).2;have HL1:=h1.len;have HL2:=h2.ilen;obtain⟨i0,hi0,hz0,hz1,hz2⟩:=Bz Tryz.info86;have b0:V' w (w.alloc (M #[I J 0,X F',Z O 0 0] 49)):=(Aa _ _).alloc z' _;have hR0:=Ar w (M #[I J 0,X F',Z O 0 0] 49);have oE:=gE (w.alloc (M #[I J 0,X F',Z O 0 0] 49)) (w.heap.size+1) 86 3 (by simp);have bE:=b0.alloc b0.size (M #[] 86);have hRE:=(Ex (w.alloc (M #[I J 0,X F',Z O 0 0] 49)) (M #[] 86) w.heap.size (by simp)).trans hR0;have hC3:=h.below bE;have hb3:w.heap.size+1<=((w.alloc (M #[I J 0,X F',Z O 0 0] 49)).alloc (M #[] 86)).heap.size:=by simp
 have hs1:(w.alloc (M #[I J 0,X F',Z O 0 0] 49)).heap.size=w.heap.size+1:=by simp
 rw[hs1]at oE;go_enter func53,ntmps53
 go_wp2_with(at_builtin;go_must (refine bM underlying24 underlying24 hi0 hz0 hz1 hz2 rfl (by omega) (by omega) (.tmp 11) (.tmp 12) ?_ ?_ (w.heap.size+1) (Z (Y ⟨w.heap.size+1,0,O⟩) 0 0) 0 [] a n cap (rcells base) ?_ ?_ oE hC3 (vG _) (by omega) hb3 ?_;exact rfl;exact rfl;exact rfl;exact rfl;intro a5 c5 w5 own5 gr5 at5;go_frame))
 obtain⟨O',hO⟩:∃O',w5.heap.size=O':=⟨_,rfl⟩
 have hs5:=gr5.size;simp at hs5;have own5':w5.ownsRow (w.heap.size+1) 86 3 (Z a5 n c5) n (rcells base):=by simpa using own5
 have hR5:=cV gr5 hRE (by simp[Value.ownBlock]);have b5:=bE.grown gr5 bE.size (fun g hg=>by simp[Value.ownBlock]at hg;omega);obtain⟨st0,Hst0⟩:∃st0,Hid ((⟨cX base base.length,A'⟩:Rp)=st0):=⟨_,rfl⟩
 have I0:RpQ w O' st0 (w5.alloc (M #[I J 0,X A',Z a5 n c5] 49)) a5 n c5:=by rw[<-Hst0.out];refine⟨(cN (by omega)).trans hR5,aP hO.symm,?_,fun e=>by have:=(aH own5' _ e).2;omega,by omega,by simp[hO],b5.alloc b5.size _⟩;rw[HBr.out];exact own5'.alloc _
 rw[hO];simp only[Al];clear oE bE hRE hC3 hb3 hs1 own5 own5' gr5 at5 hR0 hR5 b5 b0;generalize w5.alloc (M #[I J 0,X A',Z a5 n c5] 49)=V at*;have HA1:Hid (AcAt w a1 n1 ts):=h1;have HA2:Hid (CellsAt w a2 (n2*1) (icells cs)):=h2;clear h1 h2;go_loopw [8] (fun iv wr=>∃(i:Nat) (a':Option Addr) (m c':Nat),i<=n2/\iv=I J i/\RpQ w O' (eU ts cs st0 i) wr a' m c') (fun iv _=>n2-(intOf iv).toNat)
 case atStart=>exact⟨0,_,_,_,Ad _,rfl,I0⟩
 case round=>
  clear I0 hO hs5;generalize wr=wo at*;obtain⟨i,a',m,c',hi,rfl,hI⟩:=hrel;by_cases hlt:i<n2
  .obtain⟨cb,coff,rfl,_⟩:=(HA2.out.below hI.bel).int hlt;have HC:Hid (∀W,V' w W->W.cell? ⟨cb,coff+i,O⟩=Y (I J (cs.getD i 0))):=fun W hW=>by obtain⟨cb',coff',hab,hc⟩:=(HA2.out.below hW).int hlt;simp only[Af,Ap,Cn]at hab;obtain⟨rfl,rfl⟩:=hab;exact hc
   have HStep:=hid (xN ts st0 (cs:=cs) (m:=i) (by have:=HL2.out;omega));obtain⟨st,Hst⟩:∃st,Hid (eU ts cs st0 i=st):=⟨_,rfl⟩
   rw[Hst.out]at hI HStep;generalize cs.getD i 0=c at*;have I1:RpQ w O' (fQ ts st (cJ ts c 0)) wo a' m c':=hI;clear hI;go_wp2;go_loopw [9] (fun kv wx=>∃(k:Nat) (a':Option Addr) (m c':Nat),k<=n1/\kv=I J k/\RpQ w O' (fQ ts st (cJ ts c k)) wx a' m c') (fun kv _=>n1-(intOf kv).toNat)
   case atStart=>exact⟨0,_,_,_,Ad _,rfl,I1⟩
   case round=>
    clear I1 a' m c';generalize wr=wx at*;obtain⟨k,a',m,c',hk,rfl,hI⟩:=hrel;by_cases hkl:k<n1
    .obtain⟨b,off,ai,ni,ci,rfl,hd0,hd1,hd2,hd3,hd4,hd5,hcan,hni⟩:=(HA1.out.below hI.bel).act hkl;have hc0:=HC.out _ hI.bel;have HN:Hid (((aM ts k).tx==c)=F'->fQ ts st (cJ ts c (k+1))=fQ ts st (cJ ts c k)):=fun hx=>cJ0 hx;have HY:Hid (((aM ts k).tx==c)=A'->fQ ts st (cJ ts c (k+1))=rL (fQ ts st (cJ ts c k)) (aM ts k)):=fun hx=>bT3 hx;have HWk:=hid (aG3 HFz.out k);have hbw:b<w.heap.size:=by obtain⟨b',off',_,_,_,hab,q0,_⟩:=HA1.out.act hkl;simp only[Af,Ap,Cn]at hab;obtain⟨rfl,rfl⟩:=hab;exact aD q0
     have hbl:=aD hd0;have hcl:=aD hc0;have hOx:=hI.lo;generalize aM ts k=t at*;obtain⟨tx,kd,ka,kb,kv,an⟩:=t;simp only at hd0 hd1 hd2 hd3 hd4 hcan HN HY HWk;obtain⟨st1,Hst1⟩:∃st1,Hid (fQ ts st (cJ ts c k)=st1):=⟨_,rfl⟩
     rw[Hst1.out]at hI HN HY;by_cases he:(tx==c)=A'
     .have hne:(tx !=c)=F':=by simpa[bne]using he
      have HQ:=hid (HY.out he);clear HN HY he;go_wp2_with fail
      refine R0 (fun W'=>W'.cell? ⟨b,off+k*6,O⟩=Y (I J tx)/\W'.cell? ⟨cb,coff+i,O⟩=Y (I J c)/\V' wx W') (⟨hd0,hc0,(Aa _ _).drew⟩) (fun hH=>?_);refine R5 0 1 2 3 4 ?_;refine R5 5 6 7 8 9 ?_;refine R7 ?_;obtain⟨_,_,hB8⟩:=hH;have hBb:V' wx (wx.alloc (M #[I J kd,I J ka,I J kb,I J kv] 54)).drew:=((Aa _ _).alloc z' _).drew;have hIb:=hI.below hBb;have hob:(wx.alloc (M #[I J kd,I J ka,I J kb,I J kv] 54)).drew.heap[wx.heap.size]? =Y (M #[I J kd,I J ka,I J kb,I J kv] 54 (0,0)):=Ar wx _;have w5:=keep_cell hBb hd5;have hcan10:=hcan.below hBb;have hsx:O'+1<=wx.heap.size:=hI.sz;obtain⟨Bo,hBo⟩:∃Bo,wx.heap.size=Bo:=⟨_,rfl⟩
      rw[hBo]at hob hsx;have y0:(wx.alloc (M #[I J kd,I J ka,I J kb,I J kv] 54)).drew.cell? ⟨Bo,0,O⟩=Y (I J kd):=C' hob;have y1:(wx.alloc (M #[I J kd,I J ka,I J kb,I J kv] 54)).drew.cell? ⟨Bo,1,O⟩=Y (I J ka):=C' hob;have y2:(wx.alloc (M #[I J kd,I J ka,I J kb,I J kv] 54)).drew.cell? ⟨Bo,2,O⟩=Y (I J kb):=C' hob;have y3:(wx.alloc (M #[I J kd,I J ka,I J kb,I J kv] 54)).drew.cell? ⟨Bo,3,O⟩=Y (I J kv):=C' hob;obtain⟨_,z1,z2⟩:=aO9 hIb.co;have fz1:=Ax hIb.co 1;have hbO:b≠O':=by omega
      have hBO:Bo≠O':=by omega
      obtain⟨S1,ok1⟩:=st1;obtain⟨zs,HZS⟩:∃zs,Hid (Ch.rowsS S1=zs):=⟨_,rfl⟩
      have hz10:=aO hIb.own;simp only[HZS.out]at hz10;have hm:m<=1048576:=by have h3:m=(Ch.rowsS S1).length:=bU0 hIb.own;have:=uJ S1;omega
      simp only at z1;clear hd0 hd5 hc0 hB8 hob hI hcan hcl hbw;cases ok1 with
      |true=>
       go_wp2_with fail
       try rw[hBo]
       clear hd1 hd2 hd3 hd4 hbl;generalize(wx.alloc (M #[I J kd,I J ka,I J kb,I J kv] 54)).drew=Wb at*;refine R0 (fun W'=>W'.cell? ⟨b,off+k*6+5,O⟩=Y (Z ai ni ci)/\W'.cell? ⟨O',2,O⟩=Y (Z a' m c')/\W'.cell? ⟨Bo,0,O⟩=Y (I J kd)/\W'.cell? ⟨Bo,1,O⟩=Y (I J ka)/\W'.cell? ⟨Bo,2,O⟩=Y (I J kb)/\W'.cell? ⟨Bo,3,O⟩=Y (I J kv)) (⟨w5,z2,y0,y1,y2,y3⟩) (fun hH=>?_);refine R1 0 ?_;refine R6 1 (fun K hK=>?_);go_simp;refine hK.out _ _ ?_ (fun hH=>?_)
       .exact hH
       clear hK K;refine R5 2 3 4 5 6 ?_;refine R4 7 8 9 10 ?_;refine R6 11 (fun K hK=>?_);go_simp;refine(bY1 a' m c' zs kd ka kb kv Wb.drew hz10 hm).mono ?_;rintro e w3⟨a3,m3,c3,rfl,hm3,o3,b3⟩;have b3:V' Wb w3:=⟨b3.os,b3.tape,b3.output,b3.size,b3.block⟩
       go_wp2_with fail
       refine hK.out _ _ ?_ (fun hH=>?_)
       .exact⟨keep_cell (show Below Wb.drew.heap.size Wb.drew w3 from⟨b3.os,b3.tape,b3.output,b3.size,b3.block⟩) hH.1,keep_cell (show Below Wb.drew.heap.size Wb.drew w3 from⟨b3.os,b3.tape,b3.output,b3.size,b3.block⟩) hH.2.1,keep_cell (show Below Wb.drew.heap.size Wb.drew w3 from⟨b3.os,b3.tape,b3.output,b3.size,b3.block⟩) hH.2.2.1,keep_cell (show Below Wb.drew.heap.size Wb.drew w3 from⟨b3.os,b3.tape,b3.output,b3.size,b3.block⟩) hH.2.2.2.1,keep_cell (show Below Wb.drew.heap.size Wb.drew w3 from⟨b3.os,b3.tape,b3.output,b3.size,b3.block⟩) hH.2.2.2.2.1,keep_cell (show Below Wb.drew.heap.size Wb.drew w3 from⟨b3.os,b3.tape,b3.output,b3.size,b3.block⟩) hH.2.2.2.2.2⟩
       clear hK K;refine R6 12 (fun K hK=>?_);go_simp;refine(bP4 ai a3 ni ci m3 c3 an _ _ (hcan10.below b3) (aO o3) hni (by omega)).mono ?_;rintro e w4⟨rfl,b4⟩;go_wp2_with fail
       refine hK.out _ _ ?_ (fun hH=>?_)
       .exact⟨keep_cell b4 hH.1,keep_cell b4 hH.2.1,keep_cell b4 hH.2.2.1,keep_cell b4 hH.2.2.2.1,keep_cell b4 hH.2.2.2.2.1,keep_cell b4 hH.2.2.2.2.2⟩
       clear hK K;refine R2 13 14 ?_;refine R6 15 (fun K hK=>?_);have e1:=keep_cell b4 (keep_cell b3 z1);have f1:=((b4.frozen (p:=⟨O',1,O⟩) (aD (keep_cell b3 z1))).trans ((b3.frozen (p:=⟨O',1,O⟩) (aD z1)).trans fz1))
       have lO:=aD e1;go_simp;refine hK.out _ _ ?_ (fun hH=>?_)
       .have nb:b≠O':=hbO;have nB:Bo≠O':=hBO;refine⟨?_,?_,?_,?_,?_,?_⟩
        .rw[Aq _ _ _ _ (by simp[nb])];exact hH.1
        .rw[Aq _ _ _ _ (by simp)];exact hH.2.1
        .rw[Aq _ _ _ _ (by simp[nB])];exact hH.2.2.1
        .rw[Aq _ _ _ _ (by simp[nB])];exact hH.2.2.2.1
        .rw[Aq _ _ _ _ (by simp[nB])];exact hH.2.2.2.2.1
        .rw[Aq _ _ _ _ (by simp[nB])];exact hH.2.2.2.2.2
       clear hK K;refine R7 ?_;have b3':V' Wb w3:=⟨b3.os,b3.tape,b3.output,b3.size,b3.block⟩
       have hI5:=((hIb.below b3').below b4).ok (an==cP kd ka kb kv (Ch.rowsS S1));simp only[HZS.out]at hI5;obtain⟨_,z2',y0',y1',y2',y3'⟩:=hH;have lz2:=aD z2';have ly0:=aD y0';have hs5:=hI5.sz;have hz5:=aO hI5.own;simp only[HZS.out]at hz5;have hRep:Hid (rL ⟨S1,A'⟩ ⟨tx,kd,ka,kb,kv,an⟩=⟨doS S1 ⟨tx,kd,ka,kb,kv,an⟩,an==cP kd ka kb kv (Ch.rowsS S1)⟩):=rfl;rcases bO9 kd with rfl|rfl|⟨k2,k3⟩
       .have hS2:=hid (pL S1 (HWk.out rfl) A' kv);rw[HZS.out]at hS2;go_wp2_with fail
        refine(rN a' m c' ka A' kv zs _ hz5 hm).mono ?_;rintro e w6⟨a6,m6,c6,rfl,o6,b6⟩;rw[hS2.out]at o6;have hI6:=hI5.below b6;obtain⟨_,_,u2⟩:=aO9 hI6.co;have fu2:=Ax hI6.co 2;have lu2:=aD u2;have hI7:=hI6.rows (aQ o6 hs5);go_wp2;go_roundw;case rel=>exact⟨k+1,a6,m6,c6,by omega,by go_num,by rw[HQ.out,hRep.out,HZS.out,qA rfl];exact hI7⟩
        case measure=>simp[intOf];omega
       .have hS2:=hid (pL S1 (HWk.out rfl) F' 0);rw[HZS.out]at hS2;go_wp2_with fail
        refine(rN a' m c' ka F' 0 zs _ hz5 hm).mono ?_;rintro e w6⟨a6,m6,c6,rfl,o6,b6⟩;rw[hS2.out]at o6;have hI6:=hI5.below b6;obtain⟨_,_,u2⟩:=aO9 hI6.co;have fu2:=Ax hI6.co 2;have lu2:=aD u2;have hI7:=hI6.rows (aQ o6 hs5);go_wp2;go_roundw;case rel=>exact⟨k+1,a6,m6,c6,by omega,by go_num,by rw[HQ.out,hRep.out,HZS.out,qA rfl];exact hI7⟩
        case measure=>simp[intOf];omega
       .have hno:Hid (doS S1 ⟨tx,kd,ka,kb,kv,an⟩=S1):=aB2 (by unfold isW;rw[k2,k3];rfl);go_wp2;go_roundw;case rel=>exact⟨k+1,a',m,c',by omega,by go_num,by rw[HQ.out,hRep.out,hno.out,HZS.out];exact hI5⟩
        case measure=>simp[intOf];omega
      |false=>
       go_wp2_with fail
       try rw[hBo]
       clear hd1 hd2 hd3 hd4 hbl;generalize(wx.alloc (M #[I J kd,I J ka,I J kb,I J kv] 54)).drew=Wb at*;refine R0 (fun W'=>W'.cell? ⟨b,off+k*6+5,O⟩=Y (Z ai ni ci)/\W'.cell? ⟨O',2,O⟩=Y (Z a' m c')/\W'.cell? ⟨Bo,0,O⟩=Y (I J kd)/\W'.cell? ⟨Bo,1,O⟩=Y (I J ka)/\W'.cell? ⟨Bo,2,O⟩=Y (I J kb)/\W'.cell? ⟨Bo,3,O⟩=Y (I J kv)) (⟨w5,z2,y0,y1,y2,y3⟩) (fun hH=>?_);refine R1 0 ?_;refine R6 1 (fun K hK=>?_);go_simp;refine hK.out _ _ ?_ (fun hH=>?_)
       .exact hH
       clear hK K;refine R8 2 (h:=R9 3 (h:=R9 4 (h:=R9 5 (h:=R9 6 (h:=J3 ?_)))));refine R9 7 (h:=R9 8 (h:=R9 9 (h:=R9 10 (h:=R9 11 (h:=J3 ?_)))));refine R9 12 (h:=R8 13 (h:=R8 14 (h:=J3 ?_)));refine R6 15 (fun K hK=>?_);have e1:=z1;have lO:=aD e1;go_simp;refine hK.out _ _ ?_ (fun hH=>?_)
       .have nb:b≠O':=hbO;have nB:Bo≠O':=hBO;refine⟨?_,?_,?_,?_,?_,?_⟩
        .show(Wb.setCell ⟨O',1,O⟩ (X F')).cell? ⟨b,off+k*6+5,O⟩=_;rw[Aq _ _ _ _ (by simp[nb])];exact hH.1
        .show(Wb.setCell ⟨O',1,O⟩ (X F')).cell? ⟨O',2,O⟩=_;rw[Aq _ _ _ _ (by simp)];exact hH.2.1
        .show(Wb.setCell ⟨O',1,O⟩ (X F')).cell? ⟨Bo,0,O⟩=_;rw[Aq _ _ _ _ (by simp[nB])];exact hH.2.2.1
        .show(Wb.setCell ⟨O',1,O⟩ (X F')).cell? ⟨Bo,1,O⟩=_;rw[Aq _ _ _ _ (by simp[nB])];exact hH.2.2.2.1
        .show(Wb.setCell ⟨O',1,O⟩ (X F')).cell? ⟨Bo,2,O⟩=_;rw[Aq _ _ _ _ (by simp[nB])];exact hH.2.2.2.2.1
        .show(Wb.setCell ⟨O',1,O⟩ (X F')).cell? ⟨Bo,3,O⟩=_;rw[Aq _ _ _ _ (by simp[nB])];exact hH.2.2.2.2.2
       clear hK K;refine R7 ?_;have hD10:V' Wb Wb.drew:=(Aa _ _).drew;have hI5:=(hIb.below hD10).ok F';obtain⟨_,z2',y0',y1',y2',y3'⟩:=hH;have lz2:=aD z2';have ly0:=aD y0';have hs5:=hI5.sz;have hz5:=aO hI5.own;simp only[HZS.out]at hz5;have hRep:Hid (rL ⟨S1,F'⟩ ⟨tx,kd,ka,kb,kv,an⟩=⟨doS S1 ⟨tx,kd,ka,kb,kv,an⟩,F'⟩):=rfl;rcases bO9 kd with rfl|rfl|⟨k2,k3⟩
       .have hS2:=hid (pL S1 (HWk.out rfl) A' kv);rw[HZS.out]at hS2;go_wp2_with fail
        refine(rN a' m c' ka A' kv zs _ hz5 hm).mono ?_;rintro e w6⟨a6,m6,c6,rfl,o6,b6⟩;rw[hS2.out]at o6;have hI6:=hI5.below b6;obtain⟨_,_,u2⟩:=aO9 hI6.co;have fu2:=Ax hI6.co 2;have lu2:=aD u2;have hI7:=hI6.rows (aQ o6 hs5);go_wp2;go_roundw;case rel=>exact⟨k+1,a6,m6,c6,by omega,by go_num,by rw[HQ.out,hRep.out,qA rfl];exact hI7⟩
        case measure=>simp[intOf];omega
       .have hS2:=hid (pL S1 (HWk.out rfl) F' 0);rw[HZS.out]at hS2;go_wp2_with fail
        refine(rN a' m c' ka F' 0 zs _ hz5 hm).mono ?_;rintro e w6⟨a6,m6,c6,rfl,o6,b6⟩;rw[hS2.out]at o6;have hI6:=hI5.below b6;obtain⟨_,_,u2⟩:=aO9 hI6.co;have fu2:=Ax hI6.co 2;have lu2:=aD u2;have hI7:=hI6.rows (aQ o6 hs5);go_wp2;go_roundw;case rel=>exact⟨k+1,a6,m6,c6,by omega,by go_num,by rw[HQ.out,hRep.out,qA rfl];exact hI7⟩
        case measure=>simp[intOf];omega
       .have hno:Hid (doS S1 ⟨tx,kd,ka,kb,kv,an⟩=S1):=aB2 (by unfold isW;rw[k2,k3];rfl);go_wp2;go_roundw;case rel=>exact⟨k+1,a',m,c',by omega,by go_num,by rw[HQ.out,hRep.out,hno.out];exact hI5⟩
        case measure=>simp[intOf];omega
     .have he':(tx==c)=F':=by simpa using he
      have hne:(tx !=c)=A':=by simp[bne,he']
      have HQ:=hid (HN.out he');clear HN HY he;go_wp2_with fail
      refine R0 (fun W'=>W'.cell? ⟨b,off+k*6,O⟩=Y (I J tx)/\W'.cell? ⟨cb,coff+i,O⟩=Y (I J c)/\V' wx W') (⟨hd0,hc0,(Aa _ _).drew⟩) (fun hH=>?_);refine R5 0 1 2 3 4 ?_;refine R5 5 6 7 8 9 ?_;refine R7 ?_;obtain⟨_,_,hB8⟩:=hH;go_wp2;go_roundw;case rel=>exact⟨k+1,a',m,c',by omega,by go_num,by rw[HQ.out];exact hI.below hB8⟩
      case measure=>simp[intOf];omega
    .obtain rfl:k=n1:=by omega
     rw[HL1.out,<-HStep.out]at hI;go_wp2;go_roundw;case rel=>exact⟨i+1,a',m,c',by omega,by go_num,hI⟩
     case measure=>simp[intOf];omega
  .obtain rfl:i=n2:=by omega
   rw[HL2.out,<-Hst0.out,HstE.out]at hI;obtain⟨x0,x1,x2⟩:=aO9 hI.cr;obtain⟨y0,y1,y2⟩:=aO9 hI.co;have f0:=Ax hI.cr 0;have f1:=Ax hI.cr 1;have f2:=Ax hI.cr 2;have hlo:=hI.lo;have lx:=aD x0;have ly:=aD y0;have hml:m<=100:=by have:=bU0 hI.own;have:=uJ stE.s;omega
   go_wp2;refine Ae (v:=U #[I J 0,X stE.ok,Z a' m c']) (by simp[results,Tryz.results53,go_sem,x0,x1,x2]) rfl ⟨a',m,c',rfl,hml,?_,?_⟩
   .exact aQ (Bd (a:=⟨w.heap.size,2,O⟩) (Bd (a:=⟨w.heap.size,1,O⟩) (Bd (a:=⟨w.heap.size,0,O⟩) hI.own (by simp) _) (by simp) _) (by simp) _) (by omega)
   .exact((hI.bel.setCell (p:=⟨w.heap.size,0,O⟩) z' _).setCell (p:=⟨w.heap.size,1,O⟩) z' _).setCell (p:=⟨w.heap.size,2,O⟩) z' _
section
def AppT(t e:TypeId)(size:Nat):Prop:=∃i z bytes,prog.underlying t=Y (.slice e)/\prog.info? e=Y i/\i.zero=Y z/\i.size=size/\i.bytes=bytes/\z.cells.size=size/\0<size/\bytes<=1024
theorem AppT.of{e:TypeId}{size:Nat}{bytes:Nat}(h1:prog.underlying t=Y (.slice e))(h2:(prog.info? e).map (fun i=>(i.zero,i.size,i.bytes))=Y (Y z,size,bytes))(h3:(z.cells.size==size&&decide (0<size)&&decide (bytes<=1024))=A'):AppT t e size:=by obtain⟨i,hi,a1,a2,a3⟩:=Bz h2;simp only[Bq,Dx,Cs]at h3;exact⟨i,z,bytes,h1,hi,a1,a2,a3,h3.1.1,h3.1.2,h3.2⟩
theorem dQ5:AppT 24 86 3:=AppT.of (z:=U #[I J 0,I J 0,X F']) (bytes:=24) (by kernel_rfl) (by kernel_rfl) (by kernel_rfl)
theorem dO5:AppT 66 265 2:=AppT.of (z:=U #[I J 0,I J 0]) (bytes:=16) (by kernel_rfl) (by kernel_rfl) (by kernel_rfl)
theorem tS:AppT 27 2 1:=AppT.of (z:=I J 0) (bytes:=8) (by kernel_rfl) (by kernel_rfl) (by kernel_rfl)
theorem bA5:AppT 22 5 1:=AppT.of (z:=I .u8 0) (bytes:=1) (by kernel_rfl) (by kernel_rfl) (by kernel_rfl)
theorem dN3:AppT 153 263 3:=AppT.of (z:=U #[I J 0,X F',I J 0]) (bytes:=24) (by kernel_rfl) (by kernel_rfl) (by kernel_rfl)
theorem dN4:AppT 63 155 8:=AppT.of (z:=U #[I J 0,X F',I J 0,Z O 0 0,I J 0,I J 0,I J 0,I J 0]) (bytes:=80) (by kernel_rfl) (by kernel_rfl) (by kernel_rfl)
theorem aI6:AppT 45 56 6:=AppT.of (z:=U #[I J 0,I J 0,I J 0,I J 0,I J 0,Z O 0 0]) (bytes:=64) (by kernel_rfl) (by kernel_rfl) (by kernel_rfl)
section
variable{ops:Array Oper}{rest:List Oper}{o:Oper}{a:Act}{w:World}{Q:Exit->Act->World->Prop}{K:Act->World->Prop}{E:Prop}{t e:TypeId}{size:Nat}
theorem vP(hT:AppT t e size)(s x:Operand)(ho:o.op= .call {callee:=.builtin .append,args:=#[s,x],argTypes:=#[t,t]})(hgd:o.guard=O)
  (g:Nat) (A:Option Addr) (m c:Nat) (news:List Value) (hs:a.eval s=Z (Y ⟨g,0,O⟩) 0 0) (hx:a.eval x=Z A m c) (hc:CellsAt w A (m*size) news) (hn:m<=4194304)
  (hK:∀a' c' w',V' w w'->((m=0/\a'=Y ⟨g,0,O⟩/\c'=0/\w'=w)\/w'.ownsRow w.heap.size e size (Z a' m c') m news)->K (a.put o.dst (Z a' m c')) w'):
  if Region.wanted o (yielded ops a.tmps)=A' then Oper.wp prog o a w K Q else E:=by
 obtain⟨i,z,b,h1,h2,h3,h4,h5,h6,h7,h8⟩:=hT;exact cZ4 h1 h1 h2 h3 h4 h5 h6 h7 h8 s x ho hgd g A m c news hs hx hc hn hK
theorem dF3(hT:AppT t e size)(s x:Operand)(ho:o.op= .call {callee:=.builtin .append,args:=#[s,x],argTypes:=#[t,t]})(hgd:o.guard=O)
  (g:Nat) (A:Option Addr) (m c:Nat) (news:List Value) (hs:a.eval s=Z (Y ⟨g,0,O⟩) 0 0) (hx:a.eval x=Z A m c) (hc:CellsAt w A (m*size) news) (hn:m<=4194304)
  (hK:∀a' c' w',V' w w'->((m=0/\a'=Y ⟨g,0,O⟩/\c'=0/\w'=w)\/w'.ownsRow w.heap.size e size (Z a' m c') m news)->wpList prog ops Q rest (a.put o.dst (Z a' m c')) w'):
  wpList prog ops Q (o::rest) a w:=by
 obtain⟨i,z,b,h1,h2,h3,h4,h5,h6,h7,h8⟩:=hT;exact bI6 h1 h1 h2 h3 h4 h5 h6 h7 h8 s x ho hgd g A m c news hs hx hc hn hK
theorem lZ(hT:AppT t e size)(s x:Operand)(ho:o.op= .call {callee:=.builtin .append,args:=#[s,x],argTypes:=#[t,t]})(hgd:o.guard=O)
  (B:Nat) (v:Value) (n:Nat) (xs:List Value) (A:Option Addr) (m c:Nat) (news:List Value) (hs:a.eval s=v) (hx:a.eval x=Z A m c)
  (hown:w.ownsRow B e size v n xs) (hc:CellsAt w A (m*size) news) (h1:∀u∈news,u.oneCell'=A') (hn:n+m<=4194304) (hbase:B<=w.heap.size)
  (hK:∀a' c' w',w'.ownsRow B e size (Z a' (n+m) c') (n+m) (xs++news)->w.grownBy w' v.ownBlock->(∀g,(Z a' (n+m) c').ownBlock=Y g->v.ownBlock=Y g\/w.heap.size<=g)->K (a.put o.dst (Z a' (n+m) c')) w'):
  if Region.wanted o (yielded ops a.tmps)=A' then Oper.wp prog o a w K Q else E:=by
 obtain⟨i,z,b,g1,g2,g3,g4,g5,g6,g7,g8⟩:=hT;exact dP g1 g1 g2 g3 g4 g5 g6 g7 g8 s x ho hgd B v n xs A m c news hs hx hown hc h1 hn hbase hK
theorem aE3(hT:AppT t e size)(s x:Operand)(ho:o.op= .call {callee:=.builtin .append,args:=#[s,x],argTypes:=#[t,t]})(hgd:o.guard=O)
  (B:Nat) (v:Value) (n:Nat) (xs:List Value) (A:Option Addr) (m c:Nat) (news:List Value) (hs:a.eval s=v) (hx:a.eval x=Z A m c)
  (hown:w.ownsRow B e size v n xs) (hc:CellsAt w A (m*size) news) (h1:∀u∈news,u.oneCell'=A') (hn:n+m<=4194304) (hbase:B<=w.heap.size)
  (hK:∀a' c' w',w'.ownsRow B e size (Z a' (n+m) c') (n+m) (xs++news)->w.grownBy w' v.ownBlock->(∀g,(Z a' (n+m) c').ownBlock=Y g->v.ownBlock=Y g\/w.heap.size<=g)->wpList prog ops Q rest (a.put o.dst (Z a' (n+m) c')) w'):
  wpList prog ops Q (o::rest) a w:=by
 obtain⟨i,z,b,g1,g2,g3,g4,g5,g6,g7,g8⟩:=hT;exact bM g1 g1 g2 g3 g4 g5 g6 g7 g8 s x ho hgd B v n xs A m c news hs hx hown hc h1 hn hbase hK
end
end
theorem bJ{T':Nat->Nat}{o:Obj}(h:w.heap[g]? =Y o)(hT:T g=k)(hk:Kp k T T' w w'):w'.heap[g]? =Y o/\T' g=k:=by obtain⟨h1,h2⟩:=hk g (Ab.1 h).1 hT;exact⟨h1.trans h,h2⟩
theorem jS:Kp k T T w w.drew:=fun _ _ h=>⟨rfl,h⟩
theorem cK{a:World}(h:Below B a w)(hg:w.grownBy w' row)(hr:∀k,row=Y k->B<=k)(hB:B<=w.heap.size):Below B a w':=
 ⟨hg.os.trans h.os,hg.tape.trans h.tape,hg.output.trans h.output,Ak h.size hg.size,fun k hk=>by
  rcases Cd k w.heap.size with hlt|hge
  .exact(hg.block k hlt (fun e=>by have:=hr k e.symm;omega)).trans (h.block k hk)
  .omega⟩
def cpT(_:Nat):Nat->Nat:=fun _=>8
theorem dC1(q x:Nat):cpT q x=0\/cpT q x=8:=.inr rfl
theorem dC2(q:Nat):cpT q q=8:=rfl
structure CpI(W1:World)(q:Nat)(g:Nat)(s:EgS)(e:Eng)(T:Nat->Nat)(w:World):Prop where
 bel:V' W1 w
 old:∀x,x<W1.heap.size->T x=cpT q x
 own:EgO w 0 T s e
 box:w.heap[g]? =Y (M (s.cells e.bt) 68 (0,0))
 tag:T g=1
theorem dR{H j x:Nat}(h:x<H):mrk T H j x=T x:=by unfold mrk;rw[if_pos h]
theorem CpI.below(h:CpI W1 q g s e T w)(hb:V' w w')(j:Nat):CpI W1 q g s e (mrk T w.heap.size j) w':=by have hk:=fun k=>aY hb T j k;obtain⟨h4,h5⟩:=bJ h.box h.tag (hk 1);exact⟨h.bel.trans (hb.mono h.bel.size),fun x hx=>by rw[dR (by have:=h.bel.size;omega)];exact h.old x hx,h.own.kept (fun k _ _=>hk k),h4,h5⟩
theorem CpI.set8{b:Nat}(h:CpI W1 q g s e T w)(hT:T b=8)(hb:W1.heap.size<=b):CpI W1 q g s e T (w.setCell ⟨b,o,O⟩ v):=by have hk:∀k,k≠8->Kp k T T w (w.setCell ⟨b,o,O⟩ v):=fun k hk=>kL hT hk;obtain⟨h4,h5⟩:=bJ h.box h.tag (hk 1 (by omega));exact⟨h.bel.setCell hb _,h.old,h.own.kept (fun k _ h8=>hk k h8),h4,h5⟩
theorem CpI.ge(h:CpI W1 q g s e T w){x:Nat}(hx:T x≠0)(hx8:T x≠8):W1.heap.size<=x:=by
 rcases Cd x W1.heap.size with hlt|hge
 .have:=h.old x hlt;rcases dC1 q x with h1|h1
  .exact absurd (this.trans h1) hx
  .exact absurd (this.trans h1) hx8
 .exact hge
theorem CpI.txn{t:Tx}(h:CpI W1 q g s e T w)(hu:TxO w 0 T (Z s.ta s.tn s.tc) s.tn e.tx us)
  (hr:OwnT w 0 T 2 155 8 (Z s.ta s.tn s.tc) s.tn cs) (hc:∀i j,i<s.tn->j<8->cs[i*8+j]? =Y (tx8 (aS e.tx i) (us i) j))
  (hx:OwnT w 0 T (2*s.tn+10) 263 3 x t.un.length (bfcells t.un)) (hft:t.un.length<=1048576) (hn:s.tn+1<=1048576)
  (ho:w'.ownsRow 0 155 8 (Z a' (s.tn+1) c') (s.tn+1) (cs++txc t x)) (hg:w.grownBy w' (Z s.ta s.tn s.tc).ownBlock) (hat:∀g,(Z a' (s.tn+1) c').ownBlock=Y g->(Z s.ta s.tn s.tc).ownBlock=Y g\/w.heap.size<=g):
  CpI W1 q g {s with ta:=a',tn:=s.tn+1,tc:=c'} {e with tx:=e.tx++[t]} (mrk T w.heap.size 2) (w'.setCell ⟨g,3,O⟩ (Z a' (s.tn+1) c')):=by
 have k1:∀k,k≠2->Kp k T (mrk T w.heap.size 2) w w':=fun k hk=>dF hg (fun g hgg=>hr.2 g hgg) hk;obtain⟨h4,h5⟩:=bJ h.box h.tag (k1 1 (by omega));have k2:∀k,k≠1->Kp k (mrk T w.heap.size 2) (mrk T w.heap.size 2) w' (w'.setCell ⟨g,3,O⟩ (Z a' (s.tn+1) c')):=fun k hk=>kL h5 hk;have k3:∀k,k≠1->k≠2->Kp k T (mrk T w.heap.size 2) w (w'.setCell ⟨g,3,O⟩ (Z a' (s.tn+1) c')):=fun k h1 h2=>(k1 k h2).trans (k2 k h1) hg.size;have hr':=(OwnT.grown hr ho hat).kept (k2 2 (by omega));have hT:=TxO.snoc (t:=t) (x:=x) hu.len hr.1.1 hc hr' (fun i hi=>(hu.un i hi).kept (k3 _ (by omega) (by omega))) (hx.kept (k3 _ (by omega) (by omega))) hu.few hft;have hb:V' W1 (w'.setCell ⟨g,3,O⟩ (Z a' (s.tn+1) c')):=(cK h.bel hg (fun k hk=>h.ge (by rw[hr.2 k hk];decide) (by rw[hr.2 k hk];decide)) h.bel.size).setCell (h.ge (by rw[h.tag];decide) (by rw[h.tag];decide)) _;refine⟨hb,fun x hx=>by rw[dR (by have:=h.bel.size;omega)];exact h.old x hx,h.own.newTx (fun k h1 _ h2 _=>k3 k h1 h2) hT hn,?_,h5⟩;have h6:=Ag w' g 3 _ _ (Z a' (s.tn+1) c') h4;exact h6
theorem CpI.act{t:Ac}(h:CpI W1 q g s e T w)(hu:AcO w 0 T (Z s.aa s.an s.ac) s.an e.ac us)
  (hr:OwnT w 0 T 7 56 6 (Z s.aa s.an s.ac) s.an cs) (hc:∀i j,i<s.an->j<6->cs[i*6+j]? =Y (ac6 (aM e.ac i) (us i) j))
  (hx:OwnT w 0 T (2*s.an+11) 2 1 x t.an.length (icells t.an)) (hft:t.an.length<=1048576) (hn:s.an+1<=1048576)
  (ho:w'.ownsRow 0 56 6 (Z a' (s.an+1) c') (s.an+1) (cs++acc6 t x)) (hg:w.grownBy w' (Z s.aa s.an s.ac).ownBlock) (hat:∀g,(Z a' (s.an+1) c').ownBlock=Y g->(Z s.aa s.an s.ac).ownBlock=Y g\/w.heap.size<=g):
  CpI W1 q g {s with aa:=a',an:=s.an+1,ac:=c'} {e with ac:=e.ac++[t]} (mrk T w.heap.size 7) (w'.setCell ⟨g,9,O⟩ (Z a' (s.an+1) c')):=by
 have k1:∀k,k≠7->Kp k T (mrk T w.heap.size 7) w w':=fun k hk=>dF hg (fun g hgg=>hr.2 g hgg) hk;obtain⟨h4,h5⟩:=bJ h.box h.tag (k1 1 (by omega));have k2:∀k,k≠1->Kp k (mrk T w.heap.size 7) (mrk T w.heap.size 7) w' (w'.setCell ⟨g,9,O⟩ (Z a' (s.an+1) c')):=fun k hk=>kL h5 hk;have k3:∀k,k≠1->k≠7->Kp k T (mrk T w.heap.size 7) w (w'.setCell ⟨g,9,O⟩ (Z a' (s.an+1) c')):=fun k h1 h2=>(k1 k h2).trans (k2 k h1) hg.size;have hr':=(OwnT.grown hr ho hat).kept (k2 7 (by omega));have hT:=AcO.snoc (t:=t) (x:=x) hu.len hr.1.1 hc hr' (fun i hi=>(hu.an i hi).kept (k3 _ (by omega) (by omega))) (hx.kept (k3 _ (by omega) (by omega))) hu.few hft;have hb:V' W1 (w'.setCell ⟨g,9,O⟩ (Z a' (s.an+1) c')):=(cK h.bel hg (fun k hk=>h.ge (by rw[hr.2 k hk];decide) (by rw[hr.2 k hk];decide)) h.bel.size).setCell (h.ge (by rw[h.tag];decide) (by rw[h.tag];decide)) _;refine⟨hb,fun x hx=>by rw[dR (by have:=h.bel.size;omega)];exact h.old x hx,h.own.newAc (fun k h1 _ h2 _=>k3 k h1 h2) hT hn,?_,h5⟩;have h6:=Ag w' g 9 _ _ (Z a' (s.an+1) c') h4;exact h6
theorem dJ6{t:Tx}{nu c6:Nat}(h:CpI W1 q g s e T wr)
  (hb6:Below ((wr.alloc (M C8 155)).alloc (M #[] 263)).heap.size ((wr.alloc (M C8 155)).alloc (M #[] 263)) W6)
  (hO:W6.ownsRow (wr.heap.size+1) 263 3 (Z a6 nu c6) nu (bfcells t.un)) (hu:Hid (nu=t.un.length)):
  ∃T8,CpI W1 q g s e T8 ((W6.setCell ⟨wr.heap.size,3,O⟩ (Z a6 nu c6)).alloc (M C9 155))/\OwnT ((W6.setCell ⟨wr.heap.size,3,O⟩ (Z a6 nu c6)).alloc (M C9 155)) 0 T8 (2*s.tn+10) 263 3 (Z a6 nu c6) t.un.length (bfcells t.un):=by
 have bA:V' wr (wr.alloc (M C8 155)):=(Aa _ _).alloc z' _;have hsA:(wr.alloc (M C8 155)).heap.size=wr.heap.size+1:=by simp
 have b6:Below (wr.alloc (M C8 155)).heap.size (wr.alloc (M C8 155)) W6:=((Aa _ _).alloc z' _).trans (hb6.mono (by simp));have h6:=(h.below bA 8).below b6 (2*s.tn+10);have hx6:OwnT W6 0 (mrk (mrk T wr.heap.size 8) (wr.alloc (M C8 155)).heap.size (2*s.tn+10)) (2*s.tn+10) 263 3 (Z a6 nu c6) t.un.length (bfcells t.un):=by rw[<-hu.out];exact OwnT.new (by rw[hsA];exact hO) (Ad _)
 have hT:mrk (mrk T wr.heap.size 8) (wr.alloc (M C8 155)).heap.size (2*s.tn+10) wr.heap.size=8:=by rw[dR (by rw[hsA];omega)];unfold mrk;rw[if_neg (by omega)]
 generalize mrk (mrk T wr.heap.size 8) (wr.alloc (M C8 155)).heap.size (2*s.tn+10)=T6 at*;have h7:=h6.set8 (o:=3) (v:=Z a6 nu c6) hT h.bel.size;have hx7:=hx6.kept (kL (w:=W6) (o:=3) (v:=Z a6 nu c6) hT (by omega:2*s.tn+10≠8));have b8:Below (W6.setCell ⟨wr.heap.size,3,O⟩ (Z a6 nu c6)).heap.size (W6.setCell ⟨wr.heap.size,3,O⟩ (Z a6 nu c6)) ((W6.setCell ⟨wr.heap.size,3,O⟩ (Z a6 nu c6)).alloc (M C9 155)):=(Aa _ _).alloc z' _;exact⟨_,h7.below b8 8,hx7.kept (aY b8 _ 8 _)⟩
theorem dC3{W5:World}(h:CpI W1 q g s e T wr)(k5:V' wr W5)(hb6:V' W5 W6):W6.heap[g]? =Y (M (s.cells e.bt) 68 (0,0)):=
 aR hb6 (aR k5 h.box)
theorem bA4(ts:List Ac)(k:Nat)(h:k<ts.length):ts.take (k+1)=ts.take k++[aM ts k]:=by rw[Du,Ao h];simp[aM,List.getD,h]
theorem cR4(w:World)(t:Tx)(x:Value):CellsAt (w.alloc (M #[I J t.id,X t.sy,I J t.st,x,I J t.wk,I J t.wa,I J t.wb,I J t.wv] 155)) (Y ⟨w.heap.size,0,O⟩) (1*8) (txc t x):=by refine⟨rfl,fun _=>⟨_,_,rfl,fun i hi=>?_⟩⟩;rw[C' (aP (w:=w) (o:=M #[I J t.id,X t.sy,I J t.st,x,I J t.wk,I J t.wa,I J t.wb,I J t.wv] 155) rfl),Al];simp[txc]
theorem zR(w:World)(t:Ac)(x:Value):CellsAt (w.alloc (M #[I J t.tx,I J t.k,I J t.a,I J t.b,I J t.v,x] 56)) (Y ⟨w.heap.size,0,O⟩) (1*6) (acc6 t x):=by refine⟨rfl,fun _=>⟨_,_,rfl,fun i hi=>?_⟩⟩;rw[C' (aP (w:=w) (o:=M #[I J t.tx,I J t.k,I J t.a,I J t.b,I J t.v,x] 56) rfl),Al];simp[acc6]
theorem cS6(t:Tx)(a:Option Addr)(n c:Nat):∀u∈txc t (Z a n c),u.oneCell'=A':=by intro u hu;simp only[txc,Am,Cu,Eh]at hu;rcases hu with rfl|rfl|rfl|rfl|rfl|rfl|rfl|rfl<;>rfl
theorem sE(t:Ac)(a:Option Addr)(n c:Nat):∀u∈acc6 t (Z a n c),u.oneCell'=A':=by intro u hu;simp only[acc6,Am,Cu,Eh]at hu;rcases hu with rfl|rfl|rfl|rfl|rfl|rfl<;>rfl
theorem dB9(h:W.heap[g]? =Y (M #[u0,u1,u2,u3,u4,u5] t (0,0))):(W.cell? ⟨g,0,O⟩=Y u0/\W.cell? ⟨g,1,O⟩=Y u1/\W.cell? ⟨g,2,O⟩=Y u2/\W.cell? ⟨g,3,O⟩=Y u3/\W.cell? ⟨g,4,O⟩=Y u4/\W.cell? ⟨g,5,O⟩=Y u5)/\(W.frozen? ⟨g,0,O⟩=F'/\W.frozen? ⟨g,1,O⟩=F'/\W.frozen? ⟨g,2,O⟩=F'/\W.frozen? ⟨g,3,O⟩=F'/\W.frozen? ⟨g,4,O⟩=F'/\W.frozen? ⟨g,5,O⟩=F'):=
 ⟨⟨C' h,C' h,C' h,C' h,C' h,C' h⟩,⟨An _ _ _ _ _ h,An _ _ _ _ _ h,An _ _ _ _ _ h,An _ _ _ _ _ h,An _ _ _ _ _ h,An _ _ _ _ _ h⟩⟩
theorem bZ7{u6 u7:Value}(h:W.heap[g]? =Y (M #[u0,u1,u2,u3,u4,u5,u6,u7] t (0,0))):(W.cell? ⟨g,0,O⟩=Y u0/\W.cell? ⟨g,1,O⟩=Y u1/\W.cell? ⟨g,2,O⟩=Y u2/\W.cell? ⟨g,3,O⟩=Y u3/\W.cell? ⟨g,4,O⟩=Y u4/\W.cell? ⟨g,5,O⟩=Y u5/\W.cell? ⟨g,6,O⟩=Y u6/\W.cell? ⟨g,7,O⟩=Y u7)/\(W.frozen? ⟨g,0,O⟩=F'/\W.frozen? ⟨g,1,O⟩=F'/\W.frozen? ⟨g,2,O⟩=F'/\W.frozen? ⟨g,3,O⟩=F'/\W.frozen? ⟨g,4,O⟩=F'/\W.frozen? ⟨g,5,O⟩=F'/\W.frozen? ⟨g,6,O⟩=F'/\W.frozen? ⟨g,7,O⟩=F'):=
 ⟨⟨C' h,C' h,C' h,C' h,C' h,C' h,C' h,C' h⟩,⟨An _ _ _ _ _ h,An _ _ _ _ _ h,An _ _ _ _ _ h,An _ _ _ _ _ h,An _ _ _ _ _ h,An _ _ _ _ _ h,An _ _ _ _ _ h,An _ _ _ _ _ h⟩⟩
theorem eK{u6 u7 u8 u9:Value}(h:W.heap[g]? =Y (M #[u0,u1,u2,u3,u4,u5,u6,u7,u8,u9] t (0,0))):(W.cell? ⟨g,0,O⟩=Y u0/\W.cell? ⟨g,1,O⟩=Y u1/\W.cell? ⟨g,2,O⟩=Y u2/\W.cell? ⟨g,3,O⟩=Y u3/\W.cell? ⟨g,4,O⟩=Y u4/\W.cell? ⟨g,5,O⟩=Y u5/\W.cell? ⟨g,6,O⟩=Y u6/\W.cell? ⟨g,7,O⟩=Y u7/\W.cell? ⟨g,8,O⟩=Y u8/\W.cell? ⟨g,9,O⟩=Y u9)/\(W.frozen? ⟨g,0,O⟩=F'/\W.frozen? ⟨g,1,O⟩=F'/\W.frozen? ⟨g,2,O⟩=F'/\W.frozen? ⟨g,3,O⟩=F'/\W.frozen? ⟨g,4,O⟩=F'/\W.frozen? ⟨g,5,O⟩=F'/\W.frozen? ⟨g,6,O⟩=F'/\W.frozen? ⟨g,7,O⟩=F'/\W.frozen? ⟨g,8,O⟩=F'/\W.frozen? ⟨g,9,O⟩=F'):=
 ⟨⟨C' h,C' h,C' h,C' h,C' h,C' h,C' h,C' h,C' h,C' h⟩,⟨An _ _ _ _ _ h,An _ _ _ _ _ h,An _ _ _ _ _ h,An _ _ _ _ _ h,An _ _ _ _ _ h,An _ _ _ _ _ h,An _ _ _ _ _ h,An _ _ _ _ _ h,An _ _ _ _ _ h,An _ _ _ _ _ h⟩⟩
theorem aV6{c:Nat}(hc:w.heap[g]? =Y (M #[] t (0,0)))(hB:B<=g)(hl:news.length=m*sz)
  (h:(m=0/\A=Y ⟨g,0,O⟩/\c=0/\w'=w)\/w'.ownsRow w.heap.size t sz (Z A m c) m news):w'.ownsRow B t sz (Z A m c) m news:=by
 have hlt:=(Ab.1 hc).1;rcases h with⟨rfl,rfl,rfl,rfl⟩|h
 .refine⟨by omega,.inr ⟨g,0,#[],rfl,hB,hc,by omega,by unfold maxLen;omega,by simp,?_⟩⟩;have:news=[]:=Dn (by omega);simp[this]
 .exact aQ h (by omega)
theorem oC{n:Nat}(h:w.ownsRow B t sz v n xs)(hg:g<B):(w.setCell ⟨g,o,O⟩ u).ownsRow B t sz v n xs:=
 aN h iI fun g' hg' he=>by have:=(aH h g' hg').1;simp at he;omega
theorem aS1(tx k p q v:Int)(an:Option Addr)(nn cn:Nat)(zs:List Int)(w:World)(h:CellsAt w an (nn*1) (icells zs))(hn:nn<=1048576):
  Calls prog 148 #[U #[I J tx,I J k,I J p,I J q,I J v,Z an nn cn]] w fun r w'=>(∃a' c',r=R' (U #[I J tx,I J k,I J p,I J q,I J v,Z a' nn c'])/\w'.ownsRow w.heap.size 2 1 (Z a' nn c') nn (icells zs))/\V' w w':=by
 have hlen:(icells zs).length=nn*1:=h.1;go_enter func148,ntmps148
 have P0:=((cN (o:=M #[] 2) (show w.heap.size<((w.alloc (M #[I J tx,I J k,I J p,I J q,I J v,Z an nn cn] 56)).alloc (M #[I J 0,I J 0,I J 0,I J 0,I J 0,Z O 0 0] 56)).heap.size by simp;omega)).trans ((cN (by simp)).trans (aP rfl)))
 have P1:=((cN (o:=M #[] 2) (show w.heap.size+1<((w.alloc (M #[I J tx,I J k,I J p,I J q,I J v,Z an nn cn] 56)).alloc (M #[I J 0,I J 0,I J 0,I J 0,I J 0,Z O 0 0] 56)).heap.size by simp)).trans (aP (by simp)))
 have P2:(((w.alloc (M #[I J tx,I J k,I J p,I J q,I J v,Z an nn cn] 56)).alloc (M #[I J 0,I J 0,I J 0,I J 0,I J 0,Z O 0 0] 56)).alloc (M #[] 2)).heap[w.heap.size+1+1]? =Y (M #[] 2 (0,0)):=aP (by simp);have kE:V' w (((w.alloc (M #[I J tx,I J k,I J p,I J q,I J v,Z an nn cn] 56)).alloc (M #[I J 0,I J 0,I J 0,I J 0,I J 0,Z O 0 0] 56)).alloc (M #[] 2)):=(((Aa _ _).alloc z' _).alloc (by simp) _).alloc (by simp;omega) _;have hcs:=h.below kE;go_wp2_with(at_builtin;refine dF3 tS (.tmp 3) (.tmp 5) ?_ ?_ (w.heap.size+1+1) an nn cn (icells zs) ?_ ?_ hcs (by omega) ?_;exact rfl;exact rfl;exact rfl;exact rfl;intro a' c' w' hb ho;have hO:=aV6 P2 z' hlen ho;have Q0:=aR hb P0;have Q1:=aR hb P1;obtain⟨⟨q0,q1,q2,q3,q4,q5⟩,⟨f0,f1,f2,f3,f4,f5⟩⟩:=dB9 Q0;obtain⟨⟨y0,y1,y2,y3,y4,y5⟩,⟨e0,e1,e2,e3,e4,e5⟩⟩:=dB9 Q1;clear ho P0 P1 P2 hcs Q0 Q1)
 have hB:V' w w':=kE.trans (hb.mono kE.size);refine Ae (v:=U #[I J tx,I J k,I J p,I J q,I J v,Z a' nn c']) (by simp[results,Tryz.results148,go_sem,y0,y1,y2,y3,y4,y5]) rfl ⟨⟨a',c',rfl,?_⟩,?_⟩
 .refine aQ (base:=w.heap.size+1+1) ?_ (by omega);exact oC (oC (oC (oC (oC (oC (oC hO (by omega)) (by omega)) (by omega)) (by omega)) (by omega)) (by omega)) (by omega)
 .exact((((((hB.setCell (by simp) _).setCell (by simp) _).setCell (by simp) _).setCell (by simp) _).setCell (by simp) _).setCell (by simp) _).setCell (by simp) _
end Go.Proofs.YtpbbokalojdooaaGreat
