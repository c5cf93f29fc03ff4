import Derived.Test.YtpbbokalojdooaaGreatQam
namespace Go.Proofs.YtpbbokalojdooaaGreat
open Go.RowKit Ch Go.Proofs.Tryz
set_option linter.unusedSimpArgs false
set_option linter.unusedVariables false
set_option maxRecDepth 20000
set_option maxHeartbeats 8000000
open Value renaming int->I,slice->Z,bool->X,agg->U
open IntKind renaming i64->J
open Option renaming none->O,some->Y
open Obj renaming cells->M
open Ending renaming returned->R'
open Bool renaming true->A',false->F'
variable {K:Act->World->Prop} {ops:Array Oper} {Q:Exit->Act->World->Prop} {t w x:Int} {f:Int->Int} {es:List (Int×Int)}
theorem bZ0(b off:Nat)(ah:Option Addr)(nh ch:Nat)(aq:Option Addr)(nq cq:Nat)(l:Lock)(w:World)(h:LkOne w b off ah nh ch aq nq cq l)(hn:nh<=1048576)(hq:nq<=1048576):
  Calls prog 170 #[.pointer (Y ⟨b,off,O⟩)] w fun e w'=>e=R' (I J (dF l))/\Below w.heap.size w w':=by
 obtain⟨r,hs,qs⟩:=l;have⟨c0,c1,c2,h3,h4,_,_,hch,hcq⟩:=h;simp only at c0 h3 h4⊢;have hbl:=aD c0;have HQ:=h4.hlen;have HL:=h3.hlen;by_cases hmh:20<nh
 .have HR:=hid (wD (l:=⟨r,hs,qs⟩) (.inl (by have:=HL.out;show 20<hs.length;omega)));go_enter func170,ntmps170
  go_wp2;go_ret;exact⟨cK HR.out.symm,u'⟩
 by_cases hmq:20<nq
 .have HR:=hid (wD (l:=⟨r,hs,qs⟩) (.inr (by have:=HQ.out;show 20<qs.length;omega)));have d1:decide ((20:Int)<(nh:Int))=F':=by simp;omega
  go_enter func170,ntmps170
  go_wp2;go_ret;exact⟨cK HR.out.symm,u'⟩
 have d1:decide ((20:Int)<(nh:Int))=F':=by simp;omega
 have d2:decide ((20:Int)<(nq:Int))=F':=by simp;omega
 have H1:Hid (¬(20<hs.length\/20<qs.length)):=by have:=HL.out;have:=HQ.out;show ¬_;omega
 clear hmh hmq;cases hg:aZ hs
 .have HR:=hid (wE (l:=⟨r,hs,qs⟩) H1.out (by show(aZ hs&&aZ qs)=F';rw[hg];rfl));have IN:=fun W hW=>qR ah nh ch hs W hW hn;rw[uD hg]at IN;go_enter func170,ntmps170
  go_wp2_with fail
  refine(IN _ h3).mono ?_;rintro e w1⟨rfl,hww1⟩;obtain rfl:=hww1.symm;go_wp2;go_ret;exact⟨cK HR.out.symm,u'⟩
 have HG:=hid hg;have IN:=fun W hW=>qR ah nh ch hs W hW hn;rw[wY hg]at IN;cases hG:aZ qs
 .have HR:=hid (wE (l:=⟨r,hs,qs⟩) H1.out (by show(aZ hs&&aZ qs)=F';rw[hg,hG];rfl));have IM:=fun W hW=>qR aq nq cq qs W hW hq;rw[uD hG]at IM;clear hg hG;go_enter func170,ntmps170
  go_wp2_with fail
  refine(IN _ h3).mono ?_;rintro e w1⟨rfl,hww1⟩;obtain rfl:=hww1.symm;go_wp2_with fail
  refine(IM _ h4).mono ?_;rintro e w1⟨rfl,hww1⟩;obtain rfl:=hww1.symm;go_wp2;go_ret;exact⟨cK HR.out.symm,u'⟩
 have HG2:=hid hG;have H2:Hid ((aZ hs&&aZ qs)=A'):=by show _=_;rw[hg,hG];rfl
 have IM:=fun W hW=>qR aq nq cq qs W hW hq;rw[wY hG]at IM;clear hg hG;have TH:=fun W hW=>aD6 ah nh ch hs W hW hn hch;have TQ:=fun W hW=>aD6 aq nq cq qs W hW hq hcq;cases ht:cP hs;all_goals rw[ht]at TH
 .cases hu:cP qs;all_goals rw[hu]at TQ
  .have H3:Hid ((cP hs||cP qs)=F'):=by show _=_;rw[ht,hu];rfl
   have HF:=hid (fun h4=>aM9 (l:=⟨r,hs,qs⟩) H1.out H2.out H3.out h4);have HO:=hid (fun h4=>bL7 (l:=⟨r,hs,qs⟩) H1.out H2.out H3.out h4);simp only at HF HO;clear ht hu;go_enter func170,ntmps170
   go_wp2_with fail
   refine(IN _ h3).mono ?_;rintro e w1⟨rfl,hww1⟩;obtain rfl:=hww1.symm;go_wp2_with fail
   refine(IM _ h4).mono ?_;rintro e w2⟨rfl,hww2⟩;obtain rfl:=hww2.symm;go_wp2_with fail
   refine(TH _ h3).mono ?_;rintro e w3⟨rfl,b3⟩;have c1:=aC b3 c1;have c2:=aC b3 c2;have hbl:=aD c1;go_wp2_with fail
   refine(TQ _ (h4.below b3)).mono ?_;rintro e w4⟨rfl,b4⟩;have c1:=aC b4 c1;have c2:=aC b4 c2;have hbl:=aD c1;have b4':=b3.trans (b4.mono b3.size);go_wp2;go_loopw [5] (fun i wr=>∃k:Nat,k<=nh/\i=I J k/\Hid ((hs.take k).all (fun h=>eJ hs h.t h.m)=A')/\Below w.heap.size w wr) (fun i _=>nh-(intOf i).toNat)
   case atStart=>exact⟨0,Nat.zero_le _,rfl,rfl,b4'⟩
   case round=>
    obtain⟨k,hk,rfl,HH,hB⟩:=hrel;clear c1 c2 b3 b4 b4';have c1w:=aC hB h.2.1;have c2w:=aC hB h.2.2.1;have hblw:=aD c1w;by_cases hlt:k<nh
    .have hkl:k<hs.length:=by have:=HL.out;omega
     have HS:=hid (fun he=>tY (p:=fun(h:Hold)=>eJ hs h.t h.m) Hold.zero hkl he);have HN:=hid (fun he=>wK (p:=fun(h:Hold)=>eJ hs h.t h.m) Hold.zero hkl HH.out he);have HM:=hid (jS (jO HG.out hkl)).1;clear c2w HO;obtain⟨hb,ho,rfl,q0,q1⟩:=(h3.below hB).hold hlt;have hhb:=aD q0;generalize hs.getD k Hold.zero=q at*;obtain⟨rt,rm⟩:=q;simp only at q0 q1 HS HN HM;cases hf:eJ hs rt rm
     .go_wp2_with fail
      refine R0 (fun W'=>W'.cell? ⟨b,off+1,O⟩=Y (Z (Y ⟨hb,ho,O⟩) nh ch)/\W'.cell? ⟨hb,ho+k*2,O⟩=Y (I J rt)/\W'.cell? ⟨hb,ho+k*2+1,O⟩=Y (I J rm)/\CellsAt W' (Y ⟨hb,ho,O⟩) (nh*2) (hcells hs)/\Below w.heap.size w W') (⟨c1w,q0,q1,h3.below hB.drew,hB.drew⟩) (fun hH=>?_);refine R5 0 1 2 3 4 ?_;refine R5 5 6 7 8 9 ?_;refine R5 10 11 12 13 14 ?_;refine R5 15 16 17 18 19 ?_;refine R6 20 (fun K hK=>?_);go_simp;refine(iX (Y ⟨hb,ho,O⟩) nh ch rt rm hs _ hH.2.2.2.1 hn HG.out HM.out).mono ?_;rintro e w2⟨rfl,rfl⟩;rw[hf];go_wp2_with fail
      refine hK.out _ _ ?_ (fun hH=>?_)
      .exact hH
      clear hK K;refine R1 21 ?_;refine R7 ?_;go_wp2;go_ret;exact⟨cK (HF.out (by rw[show iQ hs=F' from HS.out hf];simp)).symm,hH.2.2.2.2⟩
     .go_wp2_with fail
      refine R0 (fun W'=>W'.cell? ⟨b,off+1,O⟩=Y (Z (Y ⟨hb,ho,O⟩) nh ch)/\W'.cell? ⟨hb,ho+k*2,O⟩=Y (I J rt)/\W'.cell? ⟨hb,ho+k*2+1,O⟩=Y (I J rm)/\CellsAt W' (Y ⟨hb,ho,O⟩) (nh*2) (hcells hs)/\Below w.heap.size w W') (⟨c1w,q0,q1,h3.below hB.drew,hB.drew⟩) (fun hH=>?_);refine R5 0 1 2 3 4 ?_;refine R5 5 6 7 8 9 ?_;refine R5 10 11 12 13 14 ?_;refine R5 15 16 17 18 19 ?_;refine R6 20 (fun K hK=>?_);go_simp;refine(iX (Y ⟨hb,ho,O⟩) nh ch rt rm hs _ hH.2.2.2.1 hn HG.out HM.out).mono ?_;rintro e w2⟨rfl,rfl⟩;rw[hf];go_wp2_with fail
      refine hK.out _ _ ?_ (fun hH=>?_)
      .exact hH
      clear hK K;refine R1 21 ?_;refine R7 ?_;go_wp2;go_roundw;case rel=>exact⟨k+1,by omega,by go_num,HN.out hf,hH.2.2.2.2⟩
      case measure=>simp[intOf];omega
    .obtain rfl:k=nh:=by omega
     have HAF:Hid (iQ hs=A'):=by have h1:=HH.out;have h2:=HL.out;rw[h2,List.take_length]at h1;exact h1
     by_cases hz:k+nq=0
     .have hzz:((k:Int)+(nq:Int)==0)=A':=by simp;omega
      have HZ:=hid (HF.out (by rw[<-HL.out,<-HQ.out,hz];rfl));have hwr:IntKind.i64.wrap ((k:Int)+(nq:Int))=0:=by rw[show(k:Int)+(nq:Int)=0 by omega];rfl
      go_wp2_with fail
      refine R0 (fun W'=>LkOne W' b off ah k ch aq nq cq ⟨r,hs,qs⟩/\W'.cell? ⟨b,off+1,O⟩=Y (Z ah k ch)/\W'.cell? ⟨b,off+2,O⟩=Y (Z aq nq cq)/\Below w.heap.size w W') (⟨(h.below hB).below (u'.drew),c1w,c2w,hB.drew⟩) (fun hH=>?_);refine R5 0 1 2 3 4 ?_;refine R5 5 6 7 8 9 ?_;refine R8 10 (h:=R8 11 (h:=R8 12 (h:=R9 13 (h:=R9 14 (h:=J3 ?_)))));refine R9 15 (h:=R8 16 (h:=R8 17 (h:=R9 18 (h:=R9 19 (h:=J3 ?_)))));refine R1 20 ?_;refine R7 ?_;go_wp2;go_ret;exact⟨cK HZ.out.symm,hH.2.2.2⟩
     .have hz0:¬((k:Int)+(nq:Int)=0):=by omega
      have hzz:((k:Int)+(nq:Int)==0)=F':=by simp;omega
      have HZ:Hid ((hs.length+qs.length==0)=F'):=by have h1:=HL.out;have h2:=HQ.out;rw[<-h1,<-h2];show _=_;simp;omega
      have hwr:IntKind.i64.wrap ((k:Int)+(nq:Int))=(k:Int)+(nq:Int):=IntWalk.i64_in _ ⟨by omega,by omega⟩;cases hqo:Ch.qOk hs qs
      .have HR:=hid (HF.out (by rw[hqo];simp));go_wp2_with fail
       refine R0 (fun W'=>LkOne W' b off ah k ch aq nq cq ⟨r,hs,qs⟩/\W'.cell? ⟨b,off+1,O⟩=Y (Z ah k ch)/\W'.cell? ⟨b,off+2,O⟩=Y (Z aq nq cq)/\Below w.heap.size w W') (⟨(h.below hB).below (u'.drew),c1w,c2w,hB.drew⟩) (fun hH=>?_);refine R5 0 1 2 3 4 ?_;refine R5 5 6 7 8 9 ?_;refine R4 10 11 12 13 ?_;refine R6 14 (fun K hK=>?_);go_simp;refine(uT b off ah k ch aq nq cq ⟨r,hs,qs⟩ _ hH.1 hn hq HG.out HG2.out).mono ?_;rintro e w2⟨rfl,b2⟩;rw[hqo];go_wp2_with fail
       refine hK.out _ _ ?_ (fun hH=>?_)
       .exact⟨hH.1.below b2,aC b2 hH.2.1,aC b2 hH.2.2.1,hH.2.2.2.trans (b2.mono hH.2.2.2.size)⟩
       clear hK K;refine R8 15 (h:=R8 16 (h:=R8 17 (h:=R9 18 (h:=R9 19 (h:=J3 ?_)))));refine R1 20 ?_;refine R7 ?_;go_wp2;go_ret;exact⟨cK HR.out.symm,hH.2.2.2⟩
      .cases hhf:eC hs qs
       .have HR:=hid (HO.out (by rw[hqo,hhf,HZ.out,HAF.out];rfl));go_wp2_with fail
        refine R0 (fun W'=>LkOne W' b off ah k ch aq nq cq ⟨r,hs,qs⟩/\W'.cell? ⟨b,off+1,O⟩=Y (Z ah k ch)/\W'.cell? ⟨b,off+2,O⟩=Y (Z aq nq cq)/\Below w.heap.size w W') (⟨(h.below hB).below (u'.drew),c1w,c2w,hB.drew⟩) (fun hH=>?_);refine R5 0 1 2 3 4 ?_;refine R5 5 6 7 8 9 ?_;refine R4 10 11 12 13 ?_;refine R6 14 (fun K hK=>?_);go_simp;refine(uT b off ah k ch aq nq cq ⟨r,hs,qs⟩ _ hH.1 hn hq HG.out HG2.out).mono ?_;rintro e w2⟨rfl,b2⟩;rw[hqo];go_wp2_with fail
        refine hK.out _ _ ?_ (fun hH=>?_)
        .exact⟨hH.1.below b2,aC b2 hH.2.1,aC b2 hH.2.2.1,hH.2.2.2.trans (b2.mono hH.2.2.2.size)⟩
        clear hK K;refine R4 15 16 17 18 ?_;refine R6 19 (fun K hK=>?_);go_simp;refine(xS b off ah k ch aq nq cq ⟨r,hs,qs⟩ _ hH.1 hn hq HG.out HG2.out).mono ?_;rintro e w2⟨rfl,b2⟩;rw[hhf];go_wp2_with fail
        refine hK.out _ _ ?_ (fun hH=>?_)
        .exact⟨hH.1.below b2,aC b2 hH.2.1,aC b2 hH.2.2.1,hH.2.2.2.trans (b2.mono hH.2.2.2.size)⟩
        clear hK K;refine R1 20 ?_;refine R7 ?_;go_wp2;go_ret;exact⟨cK HR.out.symm,hH.2.2.2⟩
       .have HR:=hid (HF.out (by rw[hhf];simp));go_wp2_with fail
        refine R0 (fun W'=>LkOne W' b off ah k ch aq nq cq ⟨r,hs,qs⟩/\W'.cell? ⟨b,off+1,O⟩=Y (Z ah k ch)/\W'.cell? ⟨b,off+2,O⟩=Y (Z aq nq cq)/\Below w.heap.size w W') (⟨(h.below hB).below (u'.drew),c1w,c2w,hB.drew⟩) (fun hH=>?_);refine R5 0 1 2 3 4 ?_;refine R5 5 6 7 8 9 ?_;refine R4 10 11 12 13 ?_;refine R6 14 (fun K hK=>?_);go_simp;refine(uT b off ah k ch aq nq cq ⟨r,hs,qs⟩ _ hH.1 hn hq HG.out HG2.out).mono ?_;rintro e w2⟨rfl,b2⟩;rw[hqo];go_wp2_with fail
        refine hK.out _ _ ?_ (fun hH=>?_)
        .exact⟨hH.1.below b2,aC b2 hH.2.1,aC b2 hH.2.2.1,hH.2.2.2.trans (b2.mono hH.2.2.2.size)⟩
        clear hK K;refine R4 15 16 17 18 ?_;refine R6 19 (fun K hK=>?_);go_simp;refine(xS b off ah k ch aq nq cq ⟨r,hs,qs⟩ _ hH.1 hn hq HG.out HG2.out).mono ?_;rintro e w2⟨rfl,b2⟩;rw[hhf];go_wp2_with fail
        refine hK.out _ _ ?_ (fun hH=>?_)
        .exact⟨hH.1.below b2,aC b2 hH.2.1,aC b2 hH.2.2.1,hH.2.2.2.trans (b2.mono hH.2.2.2.size)⟩
        clear hK K;refine R1 20 ?_;refine R7 ?_;go_wp2;go_ret;exact⟨cK HR.out.symm,hH.2.2.2⟩
  .have HR:=hid (tS (l:=⟨r,hs,qs⟩) H1.out H2.out (by show(cP hs||cP qs)=A';rw[ht,hu];rfl));clear ht hu;go_enter func170,ntmps170
   go_wp2_with fail
   refine(IN _ h3).mono ?_;rintro e w1⟨rfl,hww1⟩;obtain rfl:=hww1.symm;go_wp2_with fail
   refine(IM _ h4).mono ?_;rintro e w2⟨rfl,hww2⟩;obtain rfl:=hww2.symm;go_wp2_with fail
   refine(TH _ h3).mono ?_;rintro e w3⟨rfl,b3⟩;have c2:=aC b3 c2;have hbl:=aD c2;go_wp2_with fail
   refine(TQ _ (h4.below b3)).mono ?_;rintro e w4⟨rfl,b4⟩;go_wp2;go_ret;exact⟨cK HR.out.symm,b3.trans (b4.mono b3.size)⟩
 .have HR:=hid (tS (l:=⟨r,hs,qs⟩) H1.out H2.out (by show(cP hs||cP qs)=A';rw[ht];rfl));clear ht;go_enter func170,ntmps170
  go_wp2_with fail
  refine(IN _ h3).mono ?_;rintro e w1⟨rfl,hww1⟩;obtain rfl:=hww1.symm;go_wp2_with fail
  refine(IM _ h4).mono ?_;rintro e w2⟨rfl,hww2⟩;obtain rfl:=hww2.symm;go_wp2_with fail
  refine(TH _ h3).mono ?_;rintro e w3⟨rfl,b3⟩;go_wp2;go_ret;exact⟨cK HR.out.symm,b3⟩
theorem cO8(v:Int)(w:World):
  Calls prog 169 #[I J v] w fun e w'=>e=R' (X (inB v 0 100))/\w'=w:=by
 go_enter func169,ntmps169
 go_wp2_with(go_at_call 101;refine(cU _ _ _ _).mono ?_;rintro e w'⟨rfl,rfl⟩)
 go_ret;exact⟨rfl,rfl⟩
theorem cF8{o:Oper}{a:Act}{w:World}{E:Prop}(s x:Operand)
  (B:Nat) (v:Value) (n:Nat) (xs:List Value) (m:Nat) (ys:List Value) (hm:n+m<=2097152) (h1:∀u∈ys,u.oneCell'=A')
  (ho:o.op= .call {callee:=.builtin .append,args:=#[s,x],argTypes:=#[61,61]}) (hgd:o.guard=O)
  (hs:a.eval s=v) (hx:∃ad c,a.eval x=Z (Y ad) m c/\CellsAt w (Y ad) m ys)
  (hown:w.ownsRow B 200 1 v n xs) (hbase:B<=w.heap.size)
  (hK:∀a' c' w',w'.ownsRow B 200 1 (Z a' (n+m) c') (n+m) (xs++ys)->w.grownBy w' v.ownBlock->(∀g,(Z a' (n+m) c').ownBlock=Y g->v.ownBlock=Y g\/w.heap.size<=g)->K (a.put o.dst (Z a' (n+m) c')) w') (hm0:0<m):
  if Region.wanted o (yielded ops a.tmps)=A' then Oper.wp prog o a w K Q else E:=by
 obtain⟨ad,c,hx,hc⟩:=hx;obtain⟨i0,hi,hz0,hz1,hz2⟩:=info_parts Tryz.info200;refine step_append_lies w hgd s x 61 ho B 200 i0 _ 1 24 underlying61 hi hz0 hz1 hz2 rfl (by omega) v n xs hs hown ad m c ys hx (by rw[Nat.mul_one];exact hc.1) ?_ h1 hm0 (by unfold maxLen;omega) (by omega) hbase _ rfl ?_
 .intro j u hj;have hjl:j<ys.length:=(List.getElem?_eq_some_iff.1 hj).1;have hl:=hc.1;obtain⟨b,off,ha,hcc⟩:=hc.2 (by omega);simp only[Option.some.injEq]at ha;subst ha;have e:(⟨b,off,O⟩:Addr).add j=⟨b,off+j,O⟩:=by
   unfold Addr.add;split
   .next h0=>subst h0;rfl
   .rfl
  rw[e,hcc j (by omega),hj]
 .intro g cp' w' hown' hgrow hat hlt;refine hK _ _ w' hown' hgrow fun g' hg'=>?_;simp[Value.ownBlock]at hg';subst hg';rcases hat with hat|hat
  .exact .inl hat
  .exact .inr (by omega)
theorem vH(a:Option Addr)(n cap:Nat)(ls:List (List Row))(rk rv:Int)(rg:Bool)(w:World)(h:LvAt w a n ls)(hs:aW ls<=1048576)(hf:aL ls=0):
  Calls prog 103 #[Z a n cap,U #[I J rk,I J rv,X rg]] w fun e w'=>∃a' m c',e=R' (Z a' m c')/\OwnLv w' w.heap.size (Z a' m c') m (Ch.put ls ⟨rk,rv,rg⟩)/\Below w.heap.size w w':=by
 have HL:=h.len;have HF:=hid hf;have hn:n<=60:=by have:=aU9 hf;have:=HL.out;omega
 have hg:=bW8 HL hf;have bA:∀(W:World) o,Below W.heap.size W (W.alloc o):=fun W o=>q';clear hf;by_cases hn0:n=0
 .subst hn0;have HP:Hid (Ch.put ls ⟨rk,rv,rg⟩=[[⟨rk,rv,rg⟩]]):=cS9 HL.out.symm;go_enter func103,ntmps103
  go_wp2;go_ret;refine⟨_,1,_,rfl,?_,?_⟩
  .rw[HP.out];have:=dD7 (w.alloc (M #[I J rk,I J rv,X rg] 86)) w.heap.size rk rv rg (by simp);simpa using this
  .exact Below.alloc (Below.alloc (Below.alloc u' z' _) (by simp) _) (by simp;omega) _
 .obtain⟨p,hp⟩:∃p,p=fP ls rk n:=⟨_,rfl⟩
  have hpn:p<n:=by rw[hp];exact nY (by omega)
  have HP:Hid (gO ls ⟨rk,rv,rg⟩ p n=Ch.put ls ⟨rk,rv,rg⟩):=by show _=_;have e:=HL.out;subst e;exact bF9 (by omega) hp.symm
  have hw0:Below w.heap.size w (w.alloc (M #[I J rk,I J rv,X rg] 86)):=bA _ _;go_enter func103,ntmps103
  go_wp2_with fail
  refine(bQ4 a n cap rk ls _ (h.below hw0) hs hg).mono ?_;rintro e w1⟨rfl,rfl⟩;rw[<-hp];clear hp;go_wp2;obtain⟨B,HBe⟩:∃B,Hid (B=w.heap.size+1):=⟨_,rfl⟩
  go_loopw [6,7] (fun q i wr=>∃(k m:Nat) (a':Option Addr) (c':Nat) (vs:List Value),k<=n/\m<=2*k/\i=I J k/\q=Z a' m c'/\RefLv wr B (Z a' m c') m vs (gO ls ⟨rk,rv,rg⟩ p k)/\Below B (w.alloc (M #[I J rk,I J rv,X rg] 86)) wr) (fun _ i _=>n-(intOf i).toNat)
  case atStart=>
   have e:=HBe.out;subst e;refine⟨0,0,_,_,[],Nat.zero_le _,by omega,rfl,rfl,⟨rfl,?_,fun i hi=>absurd hi (by omega)⟩,?_⟩
   .have:=oQ (w.alloc (M #[I J rk,I J rv,X rg] 86)) (w.heap.size+1) (by simp);simpa using this
   .exact u'.alloc (by simp) _
  case round=>
   obtain⟨k,m,a',c',vs,hk,hmk,rfl,rfl,own,hB⟩:=hrel;have hBs:B<=wr.heap.size:=by have:=hB.size;have:=HBe.out;simp at*;omega
   have hBo:Below (w.alloc (M #[I J rk,I J rv,X rg] 86)).heap.size (w.alloc (M #[I J rk,I J rv,X rg] 86)) wr:=by have:=HBe.out;subst this;simpa using hB
   have r0:=cV hBo 0;have r1:=cV hBo 1;have r2:=cV hBo 2;simp at r0 r1 r2;have hbw:=cL hBo;clear hBo;have hoV:=own.2.1;have hsum1:m+1<=2097152:=by omega
   have hsum2:m+2<=2097152:=by omega
   have hqb:∀g,(Z a' m c').ownBlock=Y g->B<=g:=fun g hg'=>(aG hoV g hg').1;by_cases hlt:k<n
   .have hkl:k<ls.length:=by have:=HL.out;omega
    have HS:=hid (eZ hs k);obtain⟨b,off,ai,ni,ci,rfl,hc,hr,hni⟩:=h.leaf hlt;have HRl:=hr.rlen;have hni':ni<=1048576:=by have:=HS.out;have:=HRl.out;omega
    have hcr:=aC hbw hc;have hbl:=aD hcr;have hl0:=hg k hlt;have hni0:0<ni:=by have:=HRl.out;omega
    have HNo:=hid (fun(e:k≠p)=>yB ls ⟨rk,rv,rg⟩ e);have HYe:=hid (fun(e:k=p)=>by subst e;exact aE2 ls ⟨rk,rv,rg⟩ k:k=p->gO ls ⟨rk,rv,rg⟩ p (k+1)=gO ls ⟨rk,rv,rg⟩ p k++gX (eF ⟨rk,rv,rg⟩ (ls.getD k [])));generalize ls.getD k []=l at*;generalize hDL:gO ls ⟨rk,rv,rg⟩ p k=DL at*;clear hDL HS hl0;obtain⟨bi,oi,rfl,hci⟩:=hr.2 (by omega);have hbi:bi<w.heap.size:=by
     have h0:=hci 0 (by omega);have hx:(rcells l)[0]? =Y ((rcells l)[0]'(by rw[hr.1];omega)):=by simp
     rw[hx]at h0;exact aD h0
    have hrr:=hr.below hbw;have rf:RefR wr (Z a' m c') (Y ⟨bi,oi,O⟩) ni l:=⟨hrr,hni,fun b off e=>by cases e;exact⟨by have:=hbw.size;omega,fun e2=>by have:=hqb _ e2;have:=HBe.out;omega⟩⟩
    clear hci;by_cases hkp:k=p
    .have HY:=hid (HYe.out hkp);have hne:((k:Int) !=(p:Int))=F':=by simp;omega
     clear HNo HYe hkp;go_upto_region 10 with fail
     refine R0 (fun W'=>W'.cell? ⟨b,off+k,O⟩=Y (Z (Y ⟨bi,oi,O⟩) ni ci)/\W'.cell? ⟨w.heap.size,0,O⟩=Y (I J rk)/\W'.cell? ⟨w.heap.size,1,O⟩=Y (I J rv)/\W'.cell? ⟨w.heap.size,2,O⟩=Y (X rg)) (⟨hcr,r0,r1,r2⟩) (fun hH=>?_);refine R5 0 1 2 3 4 ?_;refine R1 5 ?_;refine R6 6 (fun K hK=>?_);go_simp;refine(zU (Y ⟨bi,oi,O⟩) ni ci l rk rv rg wr.drew hrr (by omega)).mono ?_;rintro e w4⟨a4,m4,c4,rfl,own4,b4⟩;go_wp2_with fail
     refine hK.out _ _ ?_ (fun hH=>?_)
     .exact⟨aC b4 hH.1,aC b4 hH.2.1,aC b4 hH.2.2.1,aC b4 hH.2.2.2⟩
     clear hK K;refine R1 7 ?_;refine R7 ?_;clear hH;have b4':Below wr.heap.size wr w4:=⟨b4.os,b4.tape,b4.output,b4.size,b4.block⟩
     have hB4:=hB.trans (b4'.mono hBs);have hBs4:B<=w4.heap.size:=by have:=b4'.size;omega
     have hoV4:=aF hoV b4';have HM:Hid (m4=(eF ⟨rk,rv,rg⟩ l).length):=by show _=_;have:=own4.1;rw[fW]at this;omega
     have hm1:1<=m4:=by have:=HM.out;have:=aV4 ⟨rk,rv,rg⟩ l;omega
     have hm4:m4<=1048577:=by have:=HM.out;have:=aC9 ⟨rk,rv,rg⟩ l;have:=HRl.out;omega
     generalize eF ⟨rk,rv,rg⟩ l=il at*;obtain⟨g4,rfl⟩:∃g4,a4=Y ⟨g4,0,O⟩:=by
      rcases own4.2 with⟨_,h0⟩|⟨g',cp,cur,hv,_⟩
      .omega
      .simp only[Value.slice.injEq]at hv;exact⟨g',hv.1⟩
     have L4:=gI own4;have hc4:=aW7 own4;have hcl:=aJ own4;have hno:(Z a' m c').ownBlock≠Y g4:=fun e=>by have h1:=(aG hoV g4 e).2;have h2:wr.heap.size<=g4:=L4.1;omega
     have hlt4:g4<w4.heap.size:=L4.2;clear own4 b4 rf hrr hr hc hcr hbl hoV;by_cases h4:m4<=4
     .have HH:Hid (gO ls ⟨rk,rv,rg⟩ p (k+1)=DL++[il]):=by show _=_;rw[HY.out,gX,if_pos (by have:=HM.out;omega)]
      clear HY;go_wp2_with(at_builtin;go_must (refine mU (.tmp 48) (.tmp 51) B (Z a' m c') m vs 1 [Z (Y ⟨g4,0,O⟩) m4 c4] hsum1 (by simp[Value.oneCell']) ?_ ?_ ?_ ?_ ?_ ?_ ?_ (by omega);exact rfl;exact rfl;exact rfl;exact⟨_,_,rfl,uX rfl⟩;exact aF hoV4 (bA _ _);(focus(simp;omega));intro a3 c3 w3 own3 gr3 at3))
      go_roundw;case rel=>
       refine⟨k+1,m+1,a3,c3,vs++[Z (Y ⟨g4,0,O⟩) m4 c4],by omega,by omega,by go_num,rfl,?_,?_⟩
       .rw[HH.out];exact own.app (b4'.alloc b4'.size _) rfl rfl (fun i hi=>by
         obtain rfl:i=0:=by simpa using hi
         exact⟨w4,_,_,_,rfl,bA _ _,hcl,by omega,fun b off e=>by cases e;exact⟨hlt4,hno⟩⟩) own3 gr3 at3
       .exact(hB4.alloc hBs4 _).grown gr3 (by simp;omega) (fun j hj=>hqb j hj)
      case measure=>simp[intOf];omega
     .have HH:Hid (gO ls ⟨rk,rv,rg⟩ p (k+1)=DL++[il.take (m4 / 2),il.drop (m4 / 2)]):=by show _=_;rw[HY.out,gX,if_neg (by have:=HM.out;omega),HM.out]
      have hcL:=hcl.cutL (k:=m4 / 2) (by omega);have hcR:=hcl.cutR (k:=m4 / 2) (by omega);obtain⟨hf,hhf⟩:∃hf,hf=m4 / 2:=⟨_,rfl⟩
      have hq:(m4:Int).tdiv 2=(hf:Int):=by rw[Int.tdiv_eq_ediv_of_nonneg (by omega)];omega
      rw[<-hhf]at HH hcL hcR;have hh1:hf<=m4:=by omega
      have hh2:hf<=c4:=by omega
      have hh3:¬c4=hf:=by omega
      have h4':¬(m4:Int)<=4:=by omega
      clear HY hhf h4 hcl;rw[Nat.zero_add]at hcR;go_upto_region 14 with fail
      refine wp_region_noPanic ?_;refine wp_region_held_drew (S:=fun _=>True) (by kernel_rfl) trivial (fun hH=>?_);refine R5 0 1 2 3 4 ?_;refine R4 5 6 7 8 ?_;refine R6 9 (fun K hK=>?_);go_simp;refine hK.out _ _ trivial (fun hH=>?_);clear hK K;refine R6 10 (fun K hK=>?_);refine cF8 (.tmp 56) (.tmp 65) B (Z a' m c') m vs 2 [Z (Y ⟨g4,0,O⟩) hf c4,Z (Y ⟨g4,hf*3,O⟩) (m4-hf) (c4-hf)] hsum2 (by simp[Value.oneCell']) ?_ ?_ ?_ ?_ ?_ ?_ ?_ (by omega)
      .exact rfl
      .exact rfl
      .exact rfl
      .exact⟨_,_,rfl,cG3 rfl⟩
      .exact aF hoV4 (u'.drew.alloc z' _)
      .simp;omega
      intro a3 c3 w3 own3 gr3 at3;refine hK.out _ _ trivial (fun hH=>?_);clear hK K;refine R1 11 ?_;refine R7 ?_;clear hH;have bD:∀o,Below w4.heap.size w4 (w4.drew.alloc o):=fun o=>u'.drew.alloc z' _;go_wp2;go_roundw;case rel=>
       refine⟨k+1,m+2,a3,c3,vs++[Z (Y ⟨g4,0,O⟩) hf c4,Z (Y ⟨g4,hf*3,O⟩) (m4-hf) (c4-hf)],by omega,by omega,by go_num,rfl,?_,?_⟩
       .rw[HH.out];exact own.app (b4'.drew.alloc b4'.size _) rfl rfl (fun i hi=>by
         rcases(show i=0\/i=1 by simp at hi;omega)with rfl|rfl
         .exact⟨w4,_,_,_,rfl,bD _,hcL,by omega,fun b off e=>by cases e;exact⟨hlt4,hno⟩⟩
         .exact⟨w4,_,_,_,rfl,bD _,hcR,by omega,fun b off e=>by cases e;exact⟨hlt4,hno⟩⟩) own3 gr3 at3
       .exact(hB4.drew.alloc hBs4 _).grown gr3 (by simp;omega) (fun j hj=>hqb j hj)
      case measure=>simp[intOf];omega
    .have HN:=hid (HNo.out hkp);have hne:((k:Int) !=(p:Int))=A':=by simp;omega
     clear HNo HYe hkp;go_wp2_with(at_builtin;go_must (refine mU (.tmp 31) (.tmp 36) B (Z a' m c') m vs 1 [Z (Y ⟨bi,oi,O⟩) ni ci] hsum1 (by simp[Value.oneCell']) ?_ ?_ ?_ ?_ ?_ ?_ ?_ (by omega);exact rfl;exact rfl;exact rfl;exact⟨_,_,rfl,uX rfl⟩;exact aF hoV (bA _ _);(focus(simp;omega));intro a3 c3 w3 own3 gr3 at3))
     go_roundw;case rel=>
      refine⟨k+1,m+1,a3,c3,vs++[Z (Y ⟨bi,oi,O⟩) ni ci],by omega,by omega,by go_num,rfl,?_,?_⟩
      .rw[HN.out];exact own.app (bA _ _) rfl rfl (fun i hi=>by
        obtain rfl:i=0:=by simpa using hi
        exact⟨wr,_,_,_,rfl,bA _ _,rf⟩) own3 gr3 at3
      .exact(hB.alloc hBs _).grown gr3 (by simp;omega) (fun j hj=>hqb j hj)
     case measure=>simp[intOf];omega
   .obtain rfl:k=n:=by omega
    have hat:=own.at;rw[HP.out]at hat own;have hml:=own.1;go_wp2_with fail
    refine(oU a' m c' (Ch.put ls ⟨rk,rv,rg⟩) wr hat (cJ7 HF.out) (fun i hi=>cJ6 HF.out i (by omega))).mono ?_;rintro e w5⟨a5,c5,rfl,own5,b5⟩;go_wp2;go_ret;exact⟨a5,m,c5,rfl,own5.base hbw.size,hbw.trans (b5.mono hbw.size)⟩
section
open Go.Maps
theorem aP0(a:Option Addr)(n cap:Nat)(rs:List Rec)(w:World)(h:CellsAt w a (n*7) (rc7 rs))(hn:n<=1048576):
  Calls prog 115 #[Z a n cap] w fun e w'=>∃a' m c',e=R' (Z a' m c')/\m<=999/\w'.ownsRow w.heap.size 2 1 (Z a' m c') m (icells (jG rs))/\Below w.heap.size w w':=by
 obtain⟨i0,hi0,hz0,hz1,hz2⟩:=info_parts Tryz.info2;have HLI:=hid (fun t=>bM1 rs t);have HLY:=hid (fun m h=>bS9 (rs:=rs) (m:=m) h);have HLN:=hid (fun m h=>cJ1 (rs:=rs) (m:=m) h);have hLL:Hid (jG rs=oK rs 999):=rfl;rw[hLL.out];have IK:=fun kd W hW=>cW9 a n cap kd rs W hW hn;generalize HK1:eP rs 1=K1 at HLI;generalize HK4:eP rs 4=K4 at HLI;generalize HK5:eP rs 5=K5 at HLI;have I1:=fun W hW=>IK 1 W hW;have I4:=fun W hW=>IK 4 W hW;have I5:=fun W hW=>IK 5 W hW;rw[HK1]at I1;rw[HK4]at I4;rw[HK5]at I5;clear IK HK1 HK4 HK5 hLL;go_enter func115,ntmps115
 go_wp2_with fail
 refine(I1 _ h).mono ?_;rintro e w1⟨a1,m1,c1,rfl,hm1,o1,b1⟩;clear I1;go_wp2_with fail
 refine(I4 _ (h.below b1)).mono ?_;rintro e w2⟨a2,m2,c2,rfl,hm2,o2,b2⟩;clear I4;have b2':=b1.trans (b2.mono b1.size);have LT1:∀g,(Z a1 m1 c1).ownBlock=Y g->g<w1.heap.size:=fun g hg=>(aG o1 g hg).2;have o1:=aF o1 b2;go_wp2_with fail
 refine(I5 _ (h.below b2')).mono ?_;rintro e w3⟨a3,m3,c3,rfl,hm3,o3,b3⟩;clear I5;have b3':=b2'.trans (b3.mono b2'.size);have o1:=aF o1 b3;have o2:=aF o2 b3;have z1:=b1.size;have z2:=b2.size;have z3:=b3.size;have hsum:m2+m3<=4194304:=by omega
 have L1:=aG o1;have L2:=aG o2;have D1:∀g,(Z a1 m1 c1).ownBlock=Y g->g<w1.heap.size:=fun g hg=>LT1 g hg;go_wp2_with(at_builtin;go_must (refine bK underlying27 underlying27 hi0 hz0 hz1 hz2 rfl (by omega) (by omega) (.tmp 10) (.tmp 12) ?_ ?_ w1.heap.size (Z a2 m2 c2) m2 (icells K4) a3 m3 c3 (icells K5) ?_ ?_ o2 (aJ o3) (dN K5) hsum (by omega) ?_;exact rfl;exact rfl;exact rfl;exact rfl;intro a4 c4 w4 o4 gr4 at4;have oE:=lW w4 w4.heap.size 2 1 z';have kE:=f' w4 (M #[] 2)))
 have o1:=aK o1 gr4 (fun g hg hk=>by have:=D1 g hg;have:=(L2 g hk).1;omega);have b4':=b3'.grown gr4 b3'.size (fun g hg=>by have:=(L2 g hg).1;omega);rw[<-eI]at o4;have z4:=b4'.size;clear o2 o3 gr4 at4 L1 L2 D1 b1 b2 b3 b3' b2';generalize K4++K5=KE at*;go_loopw [5,6] (fun q i wr=>∃(k m:Nat) (a':Option Addr) (c':Nat),k<=999/\m<=k/\i=I J ((k:Int)+1)/\q=Z a' m c'/\wr.ownsRow w4.heap.size 2 1 (Z a' m c') m (icells (oK rs k))/\Below w4.heap.size w4 wr) (fun _ i _=>1000-(intOf i).toNat)
 case atStart=>exact⟨0,0,_,_,Nat.zero_le _,z',rfl,rfl,oE,kE⟩
 case round=>
  clear oE kE;obtain⟨k,m,a',c',hk,hmk,rfl,rfl,own,hB⟩:=hrel;by_cases hlt:k<999
  .have hle:(k:Int)+1<=999:=by omega
   have hge:0<=(k:Int)+1:=by omega
   replace HLI:=hid (HLI.out ((k:Int)+1));replace HLY:=hid (fun h=>HLY.out k h);replace HLN:=hid (fun h=>HLN.out k h);have C1:=aJ (aF o1 hB);have CE:=aJ (aF o4 hB);have IC:=fun W hW=>nE a1 m1 c1 ((k:Int)+1) K1 W hW (by omega);have IE:=fun W hW=>nE a4 (m2+m3) c4 ((k:Int)+1) KE W hW (by omega);generalize oK rs k=zs at*;generalize Ft.lost (bP rs ((k:Int)+1))=lb at*;generalize K1.contains ((k:Int)+1)=cb at*;generalize KE.contains ((k:Int)+1)=ce at*;have i1:1000-(k+1+1)<1000-(k+1):=by omega
   cases cb
   .have HQ:=hid (HLN.out (by rw[HLI.out];rfl));clear HLI HLY HLN;go_wp2_with(go_at_call 117;refine(IC _ C1).mono ?_;rintro e w5⟨rfl,hw5⟩;obtain rfl:=hw5.symm)
    go_roundw;case rel=>exact⟨k+1,m,a',c',by omega,by omega,by go_num,rfl,by rw[HQ.out];exact own,hB⟩
    case measure=>simp[intOf];omega
   .cases ce
    .have HQ:=hid (HLY.out (by rw[HLI.out];rfl));clear HLI HLY HLN;have kQ:=f' wr (M #[I J ((k:Int)+1)] 2);have own3:=aF own kQ;have hC3:=jP wr ((k:Int)+1) 2;have hb3:w4.heap.size<=(wr.alloc (M #[I J ((k:Int)+1)] 2)).heap.size:=by have:=hB.size;simp;omega
     have b3:=hB.trans (kQ.mono hB.size);go_wp2_with(first|(at_builtin;go_must (refine bK underlying27 underlying27 hi0 hz0 hz1 hz2 rfl (by omega) (by omega) (.tmp 28) (.tmp 30) ?_ ?_ w4.heap.size (Z a' m c') m (icells zs) _ 1 1 (icells [(k:Int)+1]) ?_ ?_ own3 hC3 (dN [(k:Int)+1]) (by omega) hb3 ?_;exact rfl;exact rfl;exact rfl;exact rfl;intro a5 c5 w5 own5 gr5 at5;go_frame))|(go_at_call 117;first|(refine(IC _ C1).mono ?_;rintro e w5⟨rfl,hw5⟩;obtain rfl:=hw5.symm;clear IC)|(refine(IE _ CE).mono ?_;rintro e w5⟨rfl,hw5⟩;obtain rfl:=hw5.symm)))
     go_roundw;case rel=>rw[<-eI,<-HQ.out]at own5;exact⟨k+1,m+1,a5,c5,by omega,by omega,by go_num,rfl,own5,b3.grown gr5 b3.size (fun g hg=>(aG own3 g hg).1)⟩
     case measure=>simp[intOf];omega
    .have HQ:=hid (HLN.out (by rw[HLI.out];rfl));clear HLI HLY HLN;go_wp2_with(go_at_call 117;first|(refine(IC _ C1).mono ?_;rintro e w5⟨rfl,hw5⟩;obtain rfl:=hw5.symm;clear IC)|(refine(IE _ CE).mono ?_;rintro e w5⟨rfl,hw5⟩;obtain rfl:=hw5.symm))
     go_roundw;case rel=>exact⟨k+1,m,a',c',by omega,by omega,by go_num,rfl,by rw[HQ.out];exact own,hB⟩
     case measure=>simp[intOf];omega
  .obtain rfl:k=999:=by omega
   go_wp2;go_ret;exact⟨a',m,c',rfl,by omega,aP own (by omega),b4'.trans (hB.mono b4'.size)⟩
theorem bK0(a:Option Addr)(n cap:Nat)(rs:List Rec)(w:World)(h:CellsAt w a (n*7) (rc7 rs))(hn:n<=1048576):
  Calls prog 10 #[Z a n cap] w fun e w'=>∃a' m c',e=R' (U #[I J (aR6 rs).1,Z a' m c'])/\m<=1048576/\w'.ownsRow w.heap.size 2 1 (Z a' m c') m (icells (aR6 rs).2)/\Below w.heap.size w w':=by
 have IA:=fun W hW=>sQ a n cap rs W hW hn;have kA:∀o,Below w.heap.size w (w.alloc o):=fun o=>u'.alloc z' o;obtain⟨c,HC⟩:∃c,Hid (eR rs=c):=⟨_,rfl⟩
 rw[HC.out]at IA;by_cases h0:c=0;rotate_left
 .have hc:(c !=0)=A':=by simpa using h0
  rw[cJ0 HC.out hc];clear HC h0;go_enter func10,ntmps10
  go_wp2_with fail
  refine(IA _ (h.below (kA _))).mono ?_;rintro e w1⟨rfl,b1⟩;have hR:=aT b1 (heap_alloc_new w _);have b1:=cL b1;have lz:=(Array.getElem?_eq_some_iff.1 hR).1;obtain⟨x0,x1,f0,f1⟩:=aA9 hR;go_wp2;exact bodyPost_ret (v:=U #[I J c,Z O 0 0]) (by simp[results,Tryz.results10,go_sem,x0,x1]) rfl ⟨O,0,0,rfl,by omega,World.ownsRow_nil _ _ _ _,(b1.setCell (p:=⟨w.heap.size,0,O⟩) z' _).setCell (p:=⟨w.heap.size,1,O⟩) z' _⟩
 subst h0;rw[bL9 HC.out];have HZ:=hid (pI HC.out);have HL:=h.len7;have h8:n<=800:=by have h1:=HZ.out.1;have h2:=HL.out;omega
 have HM:=hid (fun t=>tL rs t);have HS:=hid (wX rs);clear HC;go_enter func10,ntmps10
 go_wp2_with fail
 refine(IA _ (h.below (kA _))).mono ?_;rintro e w1⟨rfl,b1⟩;have hR:=aT b1 (heap_alloc_new w _);have hR0:=hR;have b1:=cL b1;clear IA;go_wp2_with fail
 refine(aU3 a n cap rs _ (h.below b1) h8 HZ.out.2).mono ?_;rintro e w2⟨N,D,rfl,hN,om,fm,b2⟩;have hR:=aT b2 hR;have b2':=b1.trans (b2.mono b1.size);have hml:∀t,t∈jG rs↔(bP rs t).lost=A':=fun t=>by
  rw[HM.out t];constructor
  .exact fun h=>h.2.2
  .intro hl;have hh:Maps.has D (kF t)=A':=by
    cases hb:Maps.has D (kF t)
    .rw[fm.none hb]at hl;simp[Ft.lost,Ft.zero]at hl
    .rfl
   exact⟨(fm.has t hh).1,(fm.has t hh).2,hl⟩
 have hcon:=aN0 w1.heap.size N D (bP rs) (jG rs) w2 om fm (by omega) HS.out hml;clear HM HS hml fm om;go_wp2_with fail
 refine hcon.mono ?_;rintro e w3⟨a2,m2,c2,rfl,hm2,o2,b3⟩;clear hcon;have hR:=aT b3 hR;have b3':=b2'.trans (b3.mono b2'.size);obtain⟨x0,x1,f0,f1⟩:=aA9 hR;have L2:=aG o2;have z1:=b1.size;have z2:=b2.size;have lz:=(Array.getElem?_eq_some_iff.1 hR).1;have lz1:w.heap.size<w1.heap.size:=(Array.getElem?_eq_some_iff.1 hR0).1;go_wp2;refine bodyPost_ret (v:=U #[I J 0,Z a2 m2 c2]) (by simp[results,Tryz.results10,go_sem,x0,x1]) rfl ⟨a2,m2,c2,rfl,by omega,?_,?_⟩
 .refine aP (base:=w2.heap.size) (ownsRow_setCell_below (ownsRow_setCell_below o2 ?_ _) ?_ _) (by omega)
  .show w.heap.size<w2.heap.size;omega
  .show w.heap.size<w2.heap.size;omega
 .exact(b3'.setCell (p:=⟨w.heap.size,0,O⟩) z' _).setCell (p:=⟨w.heap.size,1,O⟩) z' _
end
theorem bC0:∀(l:List (Int×Int)) (b:Int),(∀e∈l,e∈es)->(b=0\/(x,b)∈es/\f b=w)->
  (l.foldl (fun b e=>if e.1=x/\f e.2=w/\(b=0\/e.2<b)then e.2 else b) b=0\/(x,l.foldl (fun b e=>if e.1=x/\f e.2=w/\(b=0\/e.2<b)then e.2 else b) b)∈es/\f (l.foldl (fun b e=>if e.1=x/\f e.2=w/\(b=0\/e.2<b)then e.2 else b) b)=w):=by
 intro l;induction l with
 |nil=>intro b _ h;exact h
 |cons e l ih=>
  intro b hs h;rw[List.foldl_cons];refine ih _ (fun e' he=>hs e' (List.mem_cons_of_mem _ he)) ?_;by_cases hc:e.1=x/\f e.2=w/\(b=0\/e.2<b)
  .rw[if_pos hc];right;refine⟨?_,hc.2.1⟩;rw[<-hc.1];exact hs e (List.mem_cons_self ..)
  .rw[if_neg hc];exact h
theorem bM9:∀(l:List (Int×Int)) (b:Int),(∀e∈l,0<e.2)->0<=b->(0<b\/∃e∈l,e.1=x/\f e.2=w)->
  0<l.foldl (fun b e=>if e.1=x/\f e.2=w/\(b=0\/e.2<b)then e.2 else b) b:=by
 intro l;induction l with
 |nil=>
  intro b _ _ h;rcases h with h|⟨e,he,_⟩
  .exact h
  .cases he
 |cons e l ih=>
  intro b hp h0 h;rw[List.foldl_cons];have he:=hp e (List.mem_cons_self ..);have hp':=fun e' h'=>hp e' (List.mem_cons_of_mem e h');by_cases hc:e.1=x/\f e.2=w/\(b=0\/e.2<b)
  .rw[if_pos hc];exact ih _ hp' (by omega) (.inl he)
  .rw[if_neg hc];refine ih _ hp' h0 ?_;rcases h with h|⟨e',he',h1,h2⟩
   .exact .inl h
   .rcases List.mem_cons.1 he' with rfl|he'
    .left;have:¬(b=0\/e'.2<b):=fun hh=>hc ⟨h1,h2,hh⟩;omega
    .exact .inr ⟨e',he',h1,h2⟩
theorem cA4(hp:∀e∈es,0<e.2)(h:∃u,(x,u)∈es/\f u=w):(x,jD es f x w)∈es/\f (jD es f x w)=w:=by
 obtain⟨u,hu,hf⟩:=h;have h1:=bM9 (f:=f) (x:=x) (w:=w) es 0 hp (by omega) (.inr ⟨(x,u),hu,rfl,hf⟩);have h2:=bC0 (es:=es) (f:=f) (x:=x) (w:=w) es 0 (fun _ h=>h) (.inl rfl);unfold jD;rcases h2 with h2|h2
 .omega
 .exact h2
theorem cB7:∀(l:List (Int×Int)) (s:Int),(∀e∈l,e∈es)->(s<0\/∃u,(t,u)∈es/\f u=s)->
  (l.foldl (fun s e=>if e.1=t/\0<=f e.2/\(s<0\/f e.2<s)then f e.2 else s) s<0\/∃u,(t,u)∈es/\f u=l.foldl (fun s e=>if e.1=t/\0<=f e.2/\(s<0\/f e.2<s)then f e.2 else s) s):=by
 intro l;induction l with
 |nil=>intro s _ h;exact h
 |cons e l ih=>
  intro s hs h;rw[List.foldl_cons];refine ih _ (fun e' he=>hs e' (List.mem_cons_of_mem _ he)) ?_;by_cases hc:e.1=t/\0<=f e.2/\(s<0\/f e.2<s)
  .rw[if_pos hc];right;refine⟨e.2,?_,rfl⟩;rw[<-hc.1];exact hs e (List.mem_cons_self ..)
  .rw[if_neg hc];exact h
def Ch.Links(es:List (Int×Int))(t:Int):Int->List Int->Prop
 |x,[]=>(x,t)∈es
 |x,u::l=>(x,u)∈es/\Links es t u l
theorem Ch.Links.at:∀(l:List Int) (x:Int),Links es t x l->∀i,i<l.length+1->((x::l).getD i 0,((x::l)++[t]).getD (i+1) 0)∈es:=by
 intro l;induction l with
 |nil=>
  intro x h i hi;have:i=0:=by simp at hi;omega
  subst this;simpa[Links]using h
 |cons u l ih=>
  intro x h i hi;cases i with
  |zero=>simpa using h.1
  |succ i=>have:=ih u h.2 i (by simp at hi;omega);simpa using this
theorem aS6(hp:∀e∈es,0<e.2)(hz:∀x,f x=0->x=t)(hd:∀x (d:Nat),f x=(d:Int)+1->∃u,(x,u)∈es/\f u=d):
  ∀(k:Nat) (x:Int),(∃u,(x,u)∈es/\f u=k)->Links es t x (fK es f k x)/\(∀y∈fK es f k x,1<=f y/\f y<=k)/\(fK es f k x).Nodup:=by
 intro k;induction k with
 |zero=>intro x ⟨u,hu,hf⟩;have:=hz u (by simpa using hf);subst this;exact⟨hu,fun y hy=>by simp[fK]at hy,by simp[fK]⟩
 |succ k ih=>
  intro x ⟨u,hu,hf⟩;obtain⟨h1,h2⟩:=cA4 (f:=f) (x:=x) (w:=(k:Int)+1) hp ⟨u,hu,by simpa using hf⟩;obtain⟨i1,i2,i3⟩:=ih _ (hd _ k h2);unfold fK;refine⟨⟨h1,i1⟩,fun y hy=>?_,?_⟩
  .rcases List.mem_cons.1 hy with rfl|hy
   .rw[h2];omega
   .have:=i2 y hy;omega
  .refine List.nodup_cons.2 ⟨fun hm=>?_,i3⟩;have:=i2 _ hm;omega
theorem cM6(hp:∀e∈es,0<e.2)(hself:(t,t)∉es)(h:¬(fF es t).length=0):
  ∃l,fF es t=t::l/\0<l.length/\(t::l).Nodup/\Links es t t l:=by
 have F:=cN0 (t:=t) (es:=es) (sc:=fun x=>(es.filter (fun e=>decide (e.1=x))).map (·.2)) (fun x u=>by
  simp only[List.mem_map,List.mem_filter,decide_eq_true_eq];constructor
  .rintro⟨e,⟨h1,h2⟩,h3⟩;rw[<-h2,<-h3];exact h1
  .intro h;exact⟨(x,u),⟨h,rfl⟩,rfl⟩)
 have hz:∀x,cZ es t es.length x=0->x=t:=fun x hx=>(F.zero x).1 (by simp[hx]);have hzt:cZ es t es.length t=0:=by
  have:=(F.zero t).2 rfl;by_cases h0:0<=cZ es t es.length t
  .simp only[if_pos h0,Option.some.injEq]at this;omega
  .simp only[if_neg h0]at this;cases this
 have hd:∀x (d:Nat),cZ es t es.length x=(d:Int)+1->∃u,(x,u)∈es/\cZ es t es.length u=d:=fun x d hx=>by
  obtain⟨u,hu,hf⟩:=F.down x d (by rw[if_pos (by omega)];congr 1;omega)
  refine⟨u,?_,?_⟩
  .simp only[List.mem_map,List.mem_filter,decide_eq_true_eq]at hu;obtain⟨e,⟨h1,h2⟩,h3⟩:=hu;rw[<-h2,<-h3];exact h1
  .by_cases h0:0<=cZ es t es.length u
   .simp only[if_pos h0,Option.some.injEq]at hf;omega
   .simp only[if_neg h0]at hf;cases hf
 unfold fF at h⊢;by_cases hs:oF es (cZ es t es.length) t<0
 .rw[if_pos hs]at h;exact absurd rfl h
 .rw[if_neg hs];have hu:=cB7 (es:=es) (f:=cZ es t es.length) (t:=t) es (-1) (fun _ h=>h) (.inl (by omega));rcases hu with hu|⟨u,hu,hf⟩
  .exact absurd hu hs
  .have hm:((oF es (cZ es t es.length) t).toNat:Int)=oF es (cZ es t es.length) t:=by omega
   obtain⟨i1,i2,i3⟩:=aS6 hp hz hd (oF es (cZ es t es.length) t).toNat t ⟨u,hu,by rw[hm];exact hf⟩;refine⟨_,rfl,?_,?_,i1⟩
   .rw[aF6];rcases Nat.eq_zero_or_pos (oF es (cZ es t es.length) t).toNat with h0|h0
    .exfalso;have:cZ es t es.length u=0:=by rw[hf];show oF es (cZ es t es.length) t=0;omega
     have:=hz u this;subst this;exact hself hu
    .exact h0
   .refine List.nodup_cons.2 ⟨fun hm=>?_,i3⟩;have:=i2 _ hm;omega
theorem xV{es:List Hold}{u:Int}:(x,u)∈prE es↔(⟨x,u⟩:Hold)∈es:=by
 unfold prE;simp only[List.mem_map,Prod.mk.injEq];constructor
 .rintro⟨⟨a,b⟩,h1,h2,h3⟩;simp only at h2 h3;rw[<-h2,<-h3];exact h1
 .intro h;exact⟨_,h,rfl,rfl⟩
theorem xL(a:Option Addr)(n cap:Nat)(t:Int)(ls:List Lock)(w:World)(h:LkAt w a n ls)(hs:dC ls<=1048576):
  Calls prog 173 #[Z a n cap,I J t] w fun e w'=>e=R' (X (gK ls t ls.length))/\Below w.heap.size w w':=by
 have HL:=h.len;have hn:n<=1048576:=by unfold dC at hs;have:=HL.out;omega
 go_enter func173,ntmps173
 go_wp2;go_loopw [5] (fun i wr=>∃k:Nat,k<=n/\i=I J k/\Hid (gK ls t k=F')/\Below w.heap.size w wr) (fun i _=>n-(intOf i).toNat)
 case atStart=>exact⟨0,Nat.zero_le _,rfl,rfl,u'⟩
 case round=>
  obtain⟨k,hk,rfl,HA,hB⟩:=hrel;by_cases hlt:k<n
  .have hkl:k<ls.length:=by have:=HL.out;omega
   have HSz:=hid (iM hs k);have HS:=hid (aL6 (t:=t) hkl);have HZ:=hid (fun he=>aG1 (ls:=ls) (t:=t) (k:=k+1) he);obtain⟨b,off,ah,nh,ch,aq,nq,cq,rfl,c0,c1,c2,h3,h4,_,_,_,_⟩:=(h.below hB).lock hlt;have hQ3:=h3.hlen;have hQ4:=h4.hlen;have hnq:nq<=1048576:=by have:=HSz.out;have:=hQ4.out;omega
   have hnh:nh<=1048576:=by have:=HSz.out;have:=hQ3.out;omega
   have hbl:=aD c0;have I1:=fun W hW=>fS ah nh ch t (aH ls k).hs W hW hnh;have I2:=fun W hW=>fS aq nq cq t (aH ls k).qs W hW hnq;clear HSz hQ4 hQ3;generalize aH ls k=l at*;obtain⟨r,lhs,lqs⟩:=l;simp only at c0 h3 h4 I1 I2 HS;have HA0:=HA.out;rcases eA lhs t with⟨_,HAT,_⟩|⟨j,hj,HAT,_,_⟩
   .rw[HAT]at I1;rcases eA lqs t with⟨_,HQT,_⟩|⟨j,hj,HQT,_,_⟩
    .rw[HQT]at I2;have HN:Hid (gK ls t (k+1)=F'):=by show _=_;rw[HS.out,HA0,HAT,HQT];rfl
     clear HS HZ HAT HQT HA0 HA;go_wp2_with fail
     refine(I1 _ h3).mono ?_;rintro e w9⟨rfl,hw9⟩;obtain rfl:=hw9.symm;go_wp2_with fail
     refine(I2 _ h4).mono ?_;rintro e w9⟨rfl,hw9⟩;obtain rfl:=hw9.symm;go_wp2;go_round
     case rel=>exact⟨k+1,by omega,by go_num,HN,hB⟩
     case measure=>simp[intOf];omega
    .rw[HQT]at I2;have HY:Hid (gK ls t ls.length=A'):=HZ.out (by rw[HS.out,HA0,HAT,HQT];simp);clear HS HZ HAT HQT HA0 HA;go_wp2_with fail
     refine(I1 _ h3).mono ?_;rintro e w9⟨rfl,hw9⟩;obtain rfl:=hw9.symm;go_wp2_with fail
     refine(I2 _ h4).mono ?_;rintro e w9⟨rfl,hw9⟩;obtain rfl:=hw9.symm;go_wp2;go_ret;exact⟨by(rw[HY.out]);(try rfl),hB⟩
   .rw[HAT]at I1;have HY:Hid (gK ls t ls.length=A'):=HZ.out (by rw[HS.out,HA0,HAT];simp);clear HS HZ HAT HA0 HA I2;go_wp2_with fail
    refine(I1 _ h3).mono ?_;rintro e w9⟨rfl,hw9⟩;obtain rfl:=hw9.symm;go_wp2;go_ret;exact⟨by(rw[HY.out]);(try rfl),hB⟩
  .obtain rfl:k=n:=by omega
   have HE:Hid (gK ls t ls.length=F'):=by rw[<-HL.out];exact HA
   go_wp2;go_ret;exact⟨by(rw[HE.out]);(try rfl),hB⟩
def aG7(t:Tx):Int:=if t.st<3 then 5+11*(t.un.length:Int)else 0
def fV(e:Eng)(k:Nat):Int:=4000-((e.su.length:Int)+(e.lo.length:Int))-((e.tx.take k).map aG7).sum
def vE(e:Eng):Int:=fV e e.tx.length
theorem aO1{e:Eng}{k:Nat}(h:k<e.tx.length):fV e (k+1)=fV e k-aG7 (aQ e.tx k):=by unfold fV;rw[List.take_add_one,List.getElem?_eq_getElem h,List.map_append,List.sum_append];simp[aQ,List.getD,h];omega
theorem bV8(t:Tx)(n:Nat)(h:n=t.un.length):aG7 t=if t.st<3 then 5+11*(n:Int)else 0:=by subst h;rfl
theorem xM(b:Nat)(s:EgS)(e:Eng)(w:World)(h:EgP w b s e):
  Calls prog 105 #[.pointer (Y ⟨b,0,O⟩)] w fun r w'=>r=R' (I J (vE e))/\Below w.heap.size w w':=by
 have HL:=h.2.tx.len;have h1:=h.2.n5;have h2:=h.2.n6;have hn:=h.2.n4;have HR0:Hid (fV e 0=4000-((s.sn:Int)+(s.on:Int))):=by show _=_;unfold fV;have e1:=h.2.su.len;have e2:=h.2.lo.len;simp[<-e1.out,<-e2.out]
 obtain⟨x0,x1,x2,x3,x4,x5,x6,x7,x8,x9⟩:=h.all;have hbl:=h.lt;have hw1:IntKind.i64.wrap ((s.sn:Int)+(s.on:Int))=(s.sn:Int)+(s.on:Int):=IntWalk.i64_in _ ⟨by omega,by omega⟩;have hw2:IntKind.i64.wrap (4000-((s.sn:Int)+(s.on:Int)))=4000-((s.sn:Int)+(s.on:Int)):=IntWalk.i64_in _ ⟨by omega,by omega⟩;go_enter func105,ntmps105
 go_wp2;go_quiet (fail)
 go_wp2;go_loopw [3,4] (fun q i wr=>∃k:Nat,k<=s.tn/\i=I J k/\q=I J (fV e k)/\Hid (-8388608-(k:Int)*12582912<=fV e k/\fV e k<=4000)/\Below w.heap.size w wr) (fun _ i _=>s.tn-(intOf i).toNat)
 case atStart=>exact⟨0,Nat.zero_le _,rfl,by rw[HR0.out];(try rfl),hid (by rw[HR0.out];constructor<;>omega),Go.below_drewN u' _⟩
 case round=>
  obtain⟨k,hk,rfl,rfl,HA,hB⟩:=hrel;have x3:=aC hB x3;have hbl:b<wr.heap.size:=aD x3;by_cases hlt:k<s.tn
  .have hkl:k<e.tx.length:=by have:=HL.out;omega
   have HS:=hid (aO1 hkl);obtain⟨g,off,au,nu,cu,hta,t0,t1,t2,t3,t4,t5,t6,t7,hU,hnu⟩:=(h.2.tx.below hB).txn hlt;have HU:=hU.bflen;rw[hta]at x3;have hg:=aD t0;have HC:=hid (bV8 (aQ e.tx k) nu HU.out);generalize hc:aG7 (aQ e.tx k)=cst at*;generalize aQ e.tx k=tt at*;obtain⟨tid,tsy,tst,tun,twk,twa,twb,twv⟩:=tt;simp only at t0 t1 t2 t3 t4 t5 t6 t7 HC;have hA1:=HA.out.1;have hA2:=HA.out.2;by_cases hst:tst<3
   .have HC':Hid (cst=5+11*(nu:Int)):=by show _=_;rw[HC.out,if_pos hst]
    have hw3:IntKind.i64.wrap (fV e k-5)=fV e k-5:=IntWalk.i64_in _ ⟨by omega,by omega⟩;have hw4:IntKind.i64.wrap (11*(nu:Int))=11*(nu:Int):=IntWalk.i64_in _ ⟨by omega,by omega⟩;have hw5:IntKind.i64.wrap (fV e k-5-11*(nu:Int))=fV e k-5-11*(nu:Int):=IntWalk.i64_in _ ⟨by omega,by omega⟩;clear HC;go_wp2;go_round
    case rel=>exact⟨k+1,by omega,by go_num,by rw[HS.out,HC'.out];congr 1;omega,hid (by rw[HS.out,HC'.out];constructor<;>omega),hB⟩
    case measure=>simp[intOf];omega
   .have HC':Hid (cst=0):=by show _=_;rw[HC.out,if_neg hst]
    clear HC;go_wp2;go_round
    case rel=>exact⟨k+1,by omega,by go_num,by rw[HS.out,HC'.out];congr 1;omega,hid (by rw[HS.out,HC'.out];constructor<;>omega),hB⟩
    case measure=>simp[intOf];omega
  .obtain rfl:k=s.tn:=by omega
   have HE:Hid (vE e=fV e s.tn):=by show _=_;unfold vE;rw[<-HL.out]
   go_wp2;go_ret;exact⟨by rw[HE.out];(try rfl),hB⟩
end Go.Proofs.YtpbbokalojdooaaGreat
