import Derived.Test.YtpbbokalojdooaaGreatWah
namespace Go.Proofs.YtpbbokalojdooaaGreat
open Go.RowKit Ch Go.Proofs.Tryz
set_option linter.unusedSimpArgs false
set_option linter.unusedVariables false
set_option maxRecDepth 20000
set_option maxHeartbeats 8000000
open Value renaming int->I,slice->Z,bool->X,agg->U
open IntKind renaming i64->J
open Option renaming none->O,some->Y
open Obj renaming cells->M
open Ending renaming returned->R'
open Bool renaming true->A',false->F'
variable {ops:Array Oper} {has:Bool} {Q:Exit->Act->World->Prop} {h:Hold} {a c hi key lo t tx v:Int} {ls:List (List Row)} {vs vs':List (Value×Value)} {hs hs' l qs:List Hold} {rest:List Oper} {rs:List Row} {b g i j k:Nat} {row:Option Nat} {r:Row} {S:Sl} {p q:Value×Value} {w:World}
namespace Ch
theorem cV0(a b:Int):kU a b=kU b a:=by
 cases ha:isM a
 .simp[kU,ha]
 cases hb:isM b
 .simp[kU,hb]
 rcases dK ha with rfl|rfl|rfl|rfl|rfl|rfl;all_goals rcases dK hb with rfl|rfl|rfl|rfl|rfl|rfl
 all_goals rfl
theorem cU9{x:Int}(h:eJ c a=A')(hx:kU c x=A'):kU a x=A':=by
 have h1:isM c=A'/\isM a=A':=by simp[eJ]at h;exact⟨h.1.1,h.1.2⟩
 have h2:isM x=A':=by simp[kU]at hx;exact hx.1.2
 obtain⟨hc,ha⟩:=h1;rcases dK hc with rfl|rfl|rfl|rfl|rfl|rfl;all_goals rcases dK ha with rfl|rfl|rfl|rfl|rfl|rfl
 all_goals first|exact absurd h (by decide)|skip
 all_goals rcases dK h2 with rfl|rfl|rfl|rfl|rfl|rfl
 all_goals first|rfl|exact absurd hx (by decide)
theorem uZ{b:Int}(ha:isM a=A')(hb:isM b=A'):eJ (eX a b) a=A'/\eJ (eX a b) b=A':=by
 rcases dK ha with rfl|rfl|rfl|rfl|rfl|rfl;all_goals rcases dK hb with rfl|rfl|rfl|rfl|rfl|rfl
 all_goals exact⟨rfl,rfl⟩
theorem dL0{b:Int}(ha:isM a=A')(hb:isM b=A')(h:eJ a b=F'):eX a b≠a:=by intro e;have:=(uZ ha hb).2;rw[e,h]at this;cases this
theorem cW2{b:Int}(ha:isM a=A')(hb:inB b 1 5=A'):inB (eX a b) 1 5=A':=by
 simp only[inB,Bq,Cs]at hb;obtain rfl|rfl|rfl|rfl|rfl:b=1\/b=2\/b=3\/b=4\/b=5:=by omega
 all_goals rcases dK ha with rfl|rfl|rfl|rfl|rfl|rfl
 all_goals rfl
theorem dO:aV l t=A'↔∃h∈l,h.t=t:=by simp[aV]
theorem nD:aV l t=F'↔∀h∈l,h.t≠t:=by rw[<-Bool.not_eq_true,dO];simp
theorem sN(h2:cS l=F')(hm:h∈l):bT l h.t=h.m:=by
 rw[gH]at h2;rcases eI l h.t with⟨he,_,_⟩|⟨k,hk,_,_,ht,hmm⟩
 .exact absurd rfl (nD.1 he h hm)
 .rw[hmm];obtain⟨i,hi,rfl⟩:=Cy.1 hm;rw[Bt,Ao hk]at ht⊢;simp only[Option.getD_some]at ht⊢;rcases En k i with hki|hki|hki
  .exact absurd ht (Cl.1 h2 k i hk hi hki)
  .subst hki;rfl
  .exact absurd ht.symm (Cl.1 h2 i k hi hk hki)
theorem putH_mem{x:Hold}(h2:cS hs=F'):x∈iZ hs h↔x=h\/(x∈hs/\x.t≠h.t):=by
 rw[gH]at h2;rcases eI hs h.t with⟨he,ha,_⟩|⟨k,hk,ha,he,ht,_⟩
 .rw[pU he,Aj,Cp];constructor
  .rintro(hx|hx)
   .exact .inr ⟨hx,nD.1 he x hx⟩
   .exact .inl hx
  .rintro(hx|⟨hx,_⟩)
   .exact .inr hx
   .exact .inl hx
 .rw[rJ he ha];rw[Bt,Ao hk,Option.getD_some]at ht;constructor
  .intro hx;obtain⟨i,hi,rfl⟩:=Cy.1 hx;rw[List.getElem_set];split
   .exact .inl rfl
   .next hki=>
    have hi':i<hs.length:=by simpa using hi
    refine .inr ⟨Ce hi',fun e=>?_⟩;rcases En k i with h3|h3|h3
    .exact Cl.1 h2 k i hk hi' h3 (ht.trans e.symm)
    .exact hki h3
    .exact Cl.1 h2 i k hi' hk h3 (e.trans ht.symm)
  .rintro(rfl|⟨hx,hne⟩)
   .exact Cy.2 ⟨k,by simpa using hk,by simp⟩
   .obtain⟨i,hi,rfl⟩:=Cy.1 hx;have hki:k≠i:=fun e=>by subst e;exact hne ht
    exact Cy.2 ⟨i,by simpa using hi,by rw[List.getElem_set_ne hki]⟩
theorem dF5{ls:List Lock}(n k:Nat)(h1:∀i,k<=i->i<k+n->jH ls i=0)(h2:cS (cI ls)=F'):pG ls n k=0:=by
 induction n generalizing k with
 |zero=>unfold pG;rw[h2];rfl
 |succ n ih=>unfold pG;rw[if_neg (by simp[h1 k z' (by omega)])];exact ih _ fun i hi hj=>h1 i (by omega) (by omega)
theorem bQ3{ls:List Lock}(h1:∀i,i<ls.length->0<=(aI ls i).r/\(aI ls i).r<=100/\(0<i->(aI ls (i-1)).r<(aI ls i).r)/\dL (aI ls i)=0)(h2:cS (cI ls)=F'):aT ls=0:=by refine dF5 _ _ (fun i _ hi=>?_) h2;obtain⟨a,b,c,d⟩:=h1 i (by omega);rw[yP (by simp[inB];omega) (fun⟨h0,hl⟩=>by have:=c h0;omega)];exact d
theorem dL1{l:Lock}(h1:l.hs.length<=20)(h2:l.qs.length<=20)(h3:bO l.hs=A')(h4:bO l.qs=A')(h5:cS l.hs=F')(h6:cS l.qs=F')(h7:0<l.hs.length+l.qs.length)(h8:iX l.hs=A')(h9:qOk l.hs l.qs=A')(h10:eL l.hs l.qs=F'):dL l=0:=by refine bQ2 (by omega) (by rw[h3,h4];rfl) (by rw[h5,h6];rfl) ?_;rw[h8,h9,h10,show(l.hs.length+l.qs.length==0)=F' by rw[Cq];omega];rfl
theorem qR(l:List Hold):cS l=F'↔(l.map (·.t)).Nodup:=by rw[gH,List.Nodup,Gc]
theorem qM(h2:cS hs=F')(h:Hold):cS (iZ hs h)=F':=by
 rw[qR]at h2⊢;rcases eI hs h.t with⟨he,ha,_⟩|⟨k,hk,ha,he,ht,_⟩
 .rw[pU he,Dp,Cx];refine⟨h2,by simp,fun a ha b hb e=>?_⟩;obtain⟨x,hx,rfl⟩:=Db.1 ha;simp at hb;exact nD.1 he x hx (e.trans hb)
 .rw[rJ he ha,List.map_set];rw[Bt,Ao hk,Option.getD_some]at ht;have e:(hs.map (·.t)).set k h.t=hs.map (·.t):=by rw[<-ht];have:=List.set_getElem_self (by simpa using hk:k<(hs.map (·.t)).length);simpa using this
  rw[e];exact h2
theorem tV(h2:cS hs=F')(h:Hold)(s:Int):aV (iZ hs h) s=(aV hs s||h.t==s):=by
 rw[Fe,dO,Dy,dO,Dx];constructor
 .rintro⟨x,hx,rfl⟩;rcases(putH_mem h2).1 hx with rfl|⟨hx,_⟩
  .exact .inr rfl
  .exact .inl ⟨x,hx,rfl⟩
 .rintro(⟨x,hx,rfl⟩|rfl)
  .by_cases e:x.t=h.t
   .exact⟨h,(putH_mem h2).2 (.inl rfl),e.symm⟩
   .exact⟨x,(putH_mem h2).2 (.inr ⟨hx,e⟩),rfl⟩
  .exact⟨h,(putH_mem h2).2 (.inl rfl),rfl⟩
theorem aZ6(h2:cS hs=F')(h:Hold){s:Int}(hs':s≠h.t):bT (iZ hs h) s=bT hs s:=by
 have hne:(h.t==s)=F':=by rw[Cq];exact fun e=>hs' e.symm
 cases hh:aV hs s
 .have h1:aV (iZ hs h) s=F':=by rw[tV h2,hh,hne];rfl
  unfold bT;rw[hh,h1];rfl
 .obtain⟨x,hx,rfl⟩:=dO.1 hh;rw[sN h2 hx,sN (qM h2 h) ((putH_mem h2).2 (.inr ⟨hx,hs'⟩))]
theorem aB4{m:Int}:eR l t m=A'↔∀y∈l,y.t=t\/kU y.m m=A':=by simp[eR]
theorem xU:iX l=A'↔∀x∈l,∀y∈l,y.t=x.t\/kU y.m x.m=A':=by simp[iX,eR]
theorem bS4(h2:cS hs=F')(ha:iX hs=A')(hf:eR hs h.t h.m=A'):iX (iZ hs h)=A':=by
 rw[xU]at ha⊢;rw[aB4]at hf;intro x hx y hy;rcases(putH_mem h2).1 hx with ex|⟨hx1,nx⟩<;>rcases(putH_mem h2).1 hy with ey|⟨hy1,ny⟩
 .subst ex;exact .inl (by rw[ey])
 .subst ex;exact hf y hy1
 .subst ey;rcases hf x hx1 with e|e
  .exact .inl e.symm
  .exact .inr (by rw[cV0];exact e)
 .exact ha x hx1 y hy1
theorem cU1(h:∀q∈qs,aV hs' q.t=aV hs q.t):dB hs' qs=dB hs qs:=by
 induction qs with
 |nil=>rfl
 |cons q qs ih=>unfold dB;rw[h q (by simp),ih fun x hx=>h x (by simp[hx])]
theorem dG5(h:∀q∈qs,aV hs' q.t=aV hs q.t/\bT hs' q.t=bT hs q.t):qOk hs' qs=qOk hs qs:=by
 have hc:=cU1 (hs:=hs) (hs':=hs') (qs:=qs) fun q hq=>(h q hq).1;rw[Fe,qOk,qOk,mQ,mQ];have hstep:∀i,i<qs.length->mP hs' qs i=mP hs qs i:=by
  intro i hi;have hm:qs.getD i Hold.zero∈qs:=by rw[Bt,Ao hi];exact Ce hi
  obtain⟨a,b⟩:=h _ hm;unfold mP;rw[a,b,hc]
 exact⟨fun k i hi=>(hstep i hi).symm.trans (k i hi),fun k i hi=>(hstep i hi).trans (k i hi)⟩
structure Gd(l:Lock):Prop where
 hl:l.hs.length<=20
 ql:l.qs.length<=20
 hn:bO l.hs=A'
 qn:bO l.qs=A'
 h2:cS l.hs=F'
 q2:cS l.qs=F'
 fit:iX l.hs=A'
 ord:qOk l.hs l.qs=A'
 head:eL l.hs l.qs=F'
theorem Gd.of{l:Lock}(h:dL l=0):Gd l:=by obtain⟨a,b,c,d,e,f,_,g,i,j⟩:=fU h;exact⟨a,b,c,d,e,f,g,i,j⟩
theorem Gd.new(r:Int):Gd ⟨r,[],[]⟩:=⟨by simp,by simp,rfl,rfl,rfl,rfl,rfl,rfl,rfl⟩
theorem Gd.good{l:Lock}(h:Gd l)(hp:0<l.hs.length+l.qs.length):dL l=0:=dL1 h.hl h.ql h.hn h.qn h.h2 h.q2 hp h.fit h.ord h.head
theorem aB8(hh:aV hs h.t=A'):(iZ hs h).length=hs.length:=by unfold iZ;rw[if_pos hh];simp
theorem aZ5(hh:aV hs h.t=F'):(iZ hs h).length=hs.length+1:=by rw[pU hh];simp
theorem Gd.put{l:Lock}(g:Gd l)(hn:mN h=A')(hf:eR l.hs h.t h.m=A')(hw:aV l.qs h.t=F')(hr:aV l.hs h.t=A'\/l.hs.length<20)
  (hc:(aV l.hs h.t=A'/\eJ h.m (bT l.hs h.t)=A')\/l.qs=[]):Gd ⟨l.r,iZ l.hs h,l.qs⟩:=by
 have hq:∀q∈l.qs,aV (iZ l.hs h) q.t=aV l.hs q.t/\bT (iZ l.hs h) q.t=bT l.hs q.t:=by intro q hm;have hne:q.t≠h.t:=nD.1 hw q hm;refine⟨?_,aZ6 g.h2 h hne⟩;rw[tV g.h2,show(h.t==q.t)=F' by rw[Cq];exact fun e=>hne e.symm,Gg]
 refine⟨?_,g.ql,lN g.hn hn,g.qn,qM g.h2 h,g.q2,bS4 g.h2 g.fit hf,(dG5 hq).trans g.ord,?_⟩
 .cases hh:aV l.hs h.t
  .rw[aZ5 hh];rcases hr with hr|hr
   .rw[hh]at hr;cases hr
   .omega
  .rw[aB8 hh];exact g.hl
 .rcases hc with⟨hh,hcv⟩|he
  .rcases Ei l.qs.length with h0|h0
   .have:l.qs=[]:=Dd.1 h0;simp only[this];rfl
   .have hh1:=g.head;simp only;rw[jY h0]at hh1⊢;have hm:l.qs.getD 0 Hold.zero∈l.qs:=by rw[Bt,Ao h0];exact Ce h0
    rw[(hq _ hm).1,aB8 hh];cases hb:(aV l.hs (l.qs.getD 0 Hold.zero).t||decide (l.hs.length<20))
    .rfl
    .rw[hb,Et]at hh1;rw[Et];rw[<-Bool.not_eq_true]at hh1⊢;refine fun hx=>hh1 (aB4.2 fun y hy=>?_);rw[aB4]at hx;by_cases e:y.t=h.t
     .rcases hx h ((putH_mem g.h2).2 (.inl rfl))with e2|e2
      .exact absurd e2.symm (nD.1 hw _ hm)
      .refine .inr (cU9 ?_ e2);rw[<-e,sN g.h2 hy]at hcv;exact hcv
     .exact hx y ((putH_mem g.h2).2 (.inr ⟨hy,e⟩))
  .simp only[he];rfl
theorem mO:bO l=A'↔∀x∈l,mN x=A':=by simp[bO]
theorem cU2(hh:aV hs h.t=F')(qs:List Hold):dB hs (qs++[h])=dB hs qs:=by
 induction qs with
 |nil=>simp[dB,hh]
 |cons q qs ih=>rw[List.cons_append];unfold dB;rw[ih]
theorem aX3(qs:List Hold)(h:Hold)(hi:i<qs.length):(qs++[h]).getD i Hold.zero=qs.getD i Hold.zero:=by rw[Bt,Bt,Av hi]
theorem cV4(qs:List Hold)(h:Hold):(qs++[h]).getD qs.length Hold.zero=h:=by rw[Bt,Ay z'];simp
theorem Gd.last{l:Lock}(g:Gd l)(hn:mN h=A')(hh:aV l.hs h.t=F')(hw:aV l.qs h.t=F')(hl:l.qs.length<20)(hf:eR l.hs h.t h.m=F'\/0<l.qs.length):Gd ⟨l.r,l.hs,l.qs++[h]⟩:=by
 refine⟨g.hl,by simp;omega,g.hn,?_,g.h2,?_,g.fit,?_,?_⟩
 .rw[mO];intro x hx;rcases Aj.1 hx with hx|hx
  .exact mO.1 g.qn x hx
  .rw[Cp.1 hx];exact hn
 .have:=qM g.q2 h;rw[pU hw]at this;exact this
 .refine xL fun i hi=>?_;simp only[Bv,List.length_singleton]at hi;by_cases hlt:i<l.qs.length
  .have:=mQ.1 g.ord i hlt;unfold mP at this⊢;rw[aX3 _ _ hlt,cU2 hh];exact this
  .obtain rfl:i=l.qs.length:=by omega
   exact xM (by rw[cV4];exact hh)
 .rw[jY (by simp)];rcases Ei l.qs.length with h0|h0
  .have e:l.qs=[]:=Dd.1 h0;rcases hf with hf|hf
   .simp only[e,List.nil_append,List.getD_cons_zero];rw[hf,Ge]
   .omega
  .have:=g.head;rw[jY h0]at this;simp only;rw[aX3 _ _ h0];exact this
theorem sJ(qs:List Hold)(h:Hold)(k i:Nat)(hk:k<=qs.length):(qs.take k++[h]++qs.drop k).getD i Hold.zero=if i<k then qs.getD i Hold.zero else if i=k then h else qs.getD (i-1) Hold.zero:=by
 simp only[Bt];have hlen:(qs.take k).length=k:=by simp;omega
 split
 .next h1=>rw[Bw,Av (by omega),Eo h1]
 .next h1=>
  split
  .next h2=>subst h2;rw[Bw,Ay (by omega),hlen];simp
  .next h2=>rw[Ay (by simp;omega)];simp only[Bv,hlen,List.length_singleton,Df];congr 2;omega
theorem Gd.behind{l:Lock}(g:Gd l)(hn:mN h=A')(hh:aV l.hs h.t=A')(hw:aV l.qs h.t=F')(hl:l.qs.length<20)(hf:eR l.hs h.t h.m=F')(hm:h.m≠bT l.hs h.t)(hc:eJ h.m (bT l.hs h.t)=A'):
  Gd ⟨l.r,l.hs,l.qs.take (dB l.hs l.qs)++[h]++l.qs.drop (dB l.hs l.qs)⟩:=by
 have hle:=uQ l.hs l.qs;have hlen:(l.qs.take (dB l.hs l.qs)++[h]++l.qs.drop (dB l.hs l.qs)).length=l.qs.length+1:=by simp;omega
 have hcv:dB l.hs (l.qs.take (dB l.hs l.qs)++[h]++l.qs.drop (dB l.hs l.qs))=dB l.hs l.qs+1:=by
  refine yO (by omega) (fun j hj=>?_) (fun hj=>?_)
  .rw[sJ _ _ _ _ hle];split
   .next h1=>exact tC _ _ h1
   .rw[if_pos (by omega)];exact hh
  .rw[sJ _ _ _ _ hle,if_neg (by omega),if_neg (by omega),Nat.add_sub_cancel];exact bB5 _ _ (by omega)
 refine⟨g.hl,by simp only[hlen];omega,g.hn,?_,g.h2,?_,g.fit,?_,?_⟩
 .rw[mO];intro x hx;simp only[Aj,Cp]at hx;rcases hx with(hx|hx)|hx
  .exact mO.1 g.qn x (Cg hx)
  .rw[hx];exact hn
  .exact mO.1 g.qn x (Cz hx)
 .have h2:=g.q2;simp only;rw[qR]at h2⊢;rw[Bw,List.singleton_append,Dp,Ef];rw[List.perm_middle.nodup_iff,<-Dp,Ci,Eb];refine⟨fun hx=>?_,h2⟩;obtain⟨x,hx,e⟩:=Db.1 hx;exact nD.1 hw x hx e
 .refine xL fun i hi=>?_;simp only at hi⊢;rw[hlen]at hi;by_cases h1:i<dB l.hs l.qs
  .have:=mQ.1 g.ord i (by omega);unfold mP at this⊢;rw[tC _ _ h1,if_pos rfl,Bq]at this;rw[sJ _ _ _ _ hle,if_pos h1,tC _ _ h1,if_pos rfl,hcv,Fa (show i<dB l.hs l.qs+1 by omega),Et];exact this.2
  .by_cases h2:i=dB l.hs l.qs
   .have e:(l.qs.take (dB l.hs l.qs)++[h]++l.qs.drop (dB l.hs l.qs)).getD i Hold.zero=h:=by rw[sJ _ _ _ _ hle,if_neg h1,if_pos h2]
    exact aE9 (by rw[hcv];omega) (by rw[e];exact hm) (by rw[e];exact hc)
   .refine xM ?_;rw[sJ _ _ _ _ hle,if_neg h1,if_neg h2];cases hx:aV l.hs (l.qs.getD (i-1) Hold.zero).t
    .rfl
    .have:=mQ.1 g.ord (i-1) (by omega);rw[wF hx (by omega)]at this;cases this
 .rw[jY (by simp only[hlen];omega)];simp only;rw[sJ _ _ _ _ hle];by_cases h0:0<dB l.hs l.qs
  .rw[if_pos h0];have:=g.head;rw[jY (by omega)]at this;exact this
  .rw[if_neg h0,if_pos (by omega),hf,Ge]
end Ch
section
open Go.Maps
theorem jK{a b:Bool}(h:a=b):R' (X a)=R' (X b):=by rw[h]
theorem fZ(a:Option Addr)(n cap:Nat)(t:Int)(hs:List Hold)(w:World)(h:CellsAt w a (n*2) (hcells hs))(hn:n<=1048576):
  Calls prog 171 #[Z a n cap,I J t] w fun e w'=>e=R' (I J (Ch.atH hs t))/\w'=w:=by
 have HL:=h.hlen;go_enter func171,ntmps171
 go_wp2;go_loop [5] (fun i=>∃k:Nat,k<=n/\i=I J k/\Hid (aV (hs.take k) t=F')) (fun i=>n-(intOf i).toNat)
 case atStart=>exact⟨0,Ad _,rfl,rfl⟩
 case round=>
  obtain⟨k,hk,rfl,HH⟩:=hrel;by_cases hlt:k<n
  .have hkl:k<hs.length:=by have:=HL.out;omega
   have HS:=hid (fun he=>cP2 (t:=t) hkl HH.out he);have HN:=hid (fun he=>cO9 (p:=fun(h:Hold)=>h.t==t) Hold.zero hkl HH.out he);obtain⟨b,off,rfl,q0,q1⟩:=h.hold hlt;have hbl:=aD q0;generalize hs.getD k Hold.zero=r at*;obtain⟨rt,rm⟩:=r;simp only at q0 q1 HS HN;by_cases he:rt=t
   .subst he;go_wp2;go_ret;exact⟨cH (HS.out (by simp)).1.symm,rfl⟩
   .have he':(rt==t)=F':=by simpa using he
    go_wp2;go_round
    case rel=>exact⟨k+1,by omega,by go_num,HN.out he'⟩
    case measure=>simp[intOf];omega
  .obtain rfl:k=n:=by omega
   go_wp2;go_ret;exact⟨cH (aV8 (by have h1:=HH.out;have h2:=HL.out;rw[h2,Be]at h1;exact h1)).symm,rfl⟩
theorem CellsAt.htake{a:Option Addr}{n:Nat}(h:CellsAt w a (n*2) (hcells hs))(hk:k<=n):CellsAt w a (k*2) (hcells (hs.take k)):=by rw[kK];refine⟨by rw[Ey,h.1];omega,fun h0=>?_⟩;obtain⟨b,off,ha,hc⟩:=h.2 (by omega);refine⟨b,off,ha,fun i hi=>?_⟩;rw[hc i (by omega),Ez,if_pos hi]
theorem rF(a:Option Addr)(n cap:Nat)(hs:List Hold)(w:World)(h:CellsAt w a (n*2) (hcells hs))(hn:n<=1048576):
  Calls prog 191 #[Z a n cap] w fun e w'=>e=R' (I J (aY8 hs))/\w'=w:=by
 have HL:=h.hlen;go_enter func191,ntmps191
 go_wp2;go_loop [3] (fun i=>∃k:Nat,k<=n/\i=I J k/\Hid (bO (hs.take k)=A')) (fun i=>n-(intOf i).toNat)
 case atStart=>exact⟨0,Ad _,rfl,rfl⟩
 case round=>
  obtain⟨k,hk,rfl,HH⟩:=hrel;by_cases hlt:k<n
  .have hkl:k<hs.length:=by have:=HL.out;omega
   have HS:=hid (fun he=>uD (p:=mN) Hold.zero hkl he);have HN:=hid (fun he=>wV (p:=mN) Hold.zero hkl HH.out he);obtain⟨b,off,rfl,q0,q1⟩:=h.hold hlt;have hbl:=aD q0;generalize hs.getD k Hold.zero=r at*;obtain⟨rt,rm⟩:=r;simp only[mN]at q0 q1 HS HN;have IT:=fun W=>pS rt W;have IM:=fun W=>cU rm 1 5 W;cases ht:inB rt 1 999;all_goals cases hm:inB rm 1 5
   all_goals rw[ht]at IT
   all_goals rw[hm]at IM
   all_goals go_wp2_with(first|(go_at_call 64;refine E' (IT _) ?_)|(go_at_call 101;refine E' (IM _) ?_))
   iterate 3
    .go_ret;exact⟨cH (uG (HS.out (by rw[ht,hm];rfl))).symm,rfl⟩
   .go_round
    case rel=>exact⟨k+1,by omega,by go_num,HN.out (by rw[ht,hm];rfl)⟩
    case measure=>simp[intOf];omega
  .obtain rfl:k=n:=by omega
   go_wp2;go_ret;exact⟨cH (xI (by have h1:=HH.out;have h2:=HL.out;rw[h2,Be]at h1;exact h1)).symm,rfl⟩
theorem jD(a:Option Addr)(n cap:Nat)(t m:Int)(hs:List Hold)(w:World)(h:CellsAt w a (n*2) (hcells hs))(hn:n<=1048576)(hg:bO hs=A')(hm:Ch.isM m=A'):
  Calls prog 193 #[Z a n cap,I J t,I J m] w fun e w'=>e=R' (X (eR hs t m))/\w'=w:=by
 have HL:=h.hlen;have HG:=hid hg;clear hg;go_enter func193,ntmps193
 go_wp2;go_loop [7] (fun i=>∃k:Nat,k<=n/\i=I J k/\Hid (eR (hs.take k) t m=A')) (fun i=>n-(intOf i).toNat)
 case atStart=>exact⟨0,Ad _,rfl,rfl⟩
 case round=>
  obtain⟨k,hk,rfl,HH⟩:=hrel;by_cases hlt:k<n
  .have hkl:k<hs.length:=by have:=HL.out;omega
   have HS:=hid (fun he=>uD (p:=fun(h:Hold)=>h.t==t||kU h.m m) Hold.zero hkl he);have HN:=hid (fun he=>wV (p:=fun(h:Hold)=>h.t==t||kU h.m m) Hold.zero hkl HH.out he);have HM:=hid (jX (jT HG.out hkl)).1;obtain⟨b,off,rfl,q0,q1⟩:=h.hold hlt;have hbl:=aD q0;generalize hs.getD k Hold.zero=r at*;obtain⟨rt,rm⟩:=r;simp only at q0 q1 HS HN HM;have IT:=fun W=>aY2 rm m W HM.out hm;have HF:Hid (kU rm m=Ch.tab rX rm m):=by show _=_;unfold kU;rw[HM.out,hm];rfl
   by_cases he:rt=t
   .subst he;go_wp2;go_round
    case rel=>exact⟨k+1,by omega,by go_num,HN.out (by simp)⟩
    case measure=>simp[intOf];omega
   .have he':(rt==t)=F':=by simpa using he
    have hne':(rt !=t)=A':=by simpa using he
    cases hf:Ch.tab rX rm m;all_goals rw[hf]at IT
    .go_wp2_with(go_at_call 205;refine E' (IT _) ?_)
     go_ret;exact⟨jK (HS.out (by rw[he',HF.out,hf];rfl)).symm,rfl⟩
    .go_wp2_with(go_at_call 205;refine E' (IT _) ?_)
     go_round
     case rel=>exact⟨k+1,by omega,by go_num,HN.out (by rw[he',HF.out,hf];rfl)⟩
     case measure=>simp[intOf];omega
  .obtain rfl:k=n:=by omega
   go_wp2;go_ret;exact⟨jK (by have h1:=HH.out;have h2:=HL.out;rw[h2,Be]at h1;exact h1.symm),rfl⟩
theorem aE1(a:Option Addr)(n cap:Nat)(hs:List Hold)(w:World)(h:CellsAt w a (n*2) (hcells hs))(hn:n<=1048576)(hcap:n<=cap):
  Calls prog 192 #[Z a n cap] w fun e w'=>e=R' (X (cS hs))/\V' w w':=by
 have HL:=h.hlen;go_enter func192,ntmps192
 go_wp2;go_loopw [3] (fun i wr=>∃k:Nat,k<=n/\i=I J k/\Hid (jZ hs k=F')/\V' w wr) (fun i _=>n-(intOf i).toNat)
 case atStart=>exact⟨0,Ad _,rfl,rfl,Aa _ _⟩
 case round=>
  obtain⟨k,hk,rfl,HH,hB⟩:=hrel;by_cases hlt:k<n
  .have hkl:k<hs.length:=by have:=HL.out;omega
   have HS:=hid (fun he=>aQ7 hkl he);have HN:=hid (fun he=>aR8 (k:=k) HH.out he);have h1:=h.below hB;have hT:=h1.htake hk;obtain⟨b,off,rfl,q0,q1⟩:=h1.hold hlt;have hbl:=aD q0;generalize hs.getD k Hold.zero=r at*;obtain⟨rt,rm⟩:=r;simp only at q0 q1 HS HN;have hkc:k<=cap:=by omega
   clear q1;rcases eI (hs.take k) rt with⟨he,HAT,_⟩|⟨j,hj,HAT,he,_⟩
   .have HA:=hid he;clear he;go_wp2_with fail
    refine R0 (fun W'=>W'.cell? ⟨b,off+k*2,O⟩=Y (I J rt)/\CellsAt W' (Y ⟨b,off,O⟩) (k*2) (hcells (hs.take k))/\V' w W') (⟨q0,hT,hB.drew⟩) (fun hH=>?_);refine R5 0 1 2 3 4 ?_;refine R3 5 6 7 ?_;refine R6 8 (fun K hK=>?_);go_simp;refine(fZ _ k _ rt (hs.take k) _ hH.2.1 (by omega)).mono ?_;rintro e w2⟨rfl,rfl⟩;rw[HAT];go_wp2_with fail
    refine hK.out _ _ ?_ (fun hH=>?_)
    .exact hH
    clear hK K;refine R1 9 ?_;refine R7 ?_;go_wp2;go_roundw;case rel=>exact⟨k+1,by omega,by go_num,HN.out HA.out,hH.2.2⟩
    case measure=>simp[intOf];omega
   .have HA:=hid he;clear he;go_wp2_with fail
    refine R0 (fun W'=>W'.cell? ⟨b,off+k*2,O⟩=Y (I J rt)/\CellsAt W' (Y ⟨b,off,O⟩) (k*2) (hcells (hs.take k))/\V' w W') (⟨q0,hT,hB.drew⟩) (fun hH=>?_);refine R5 0 1 2 3 4 ?_;refine R3 5 6 7 ?_;refine R6 8 (fun K hK=>?_);go_simp;refine E' (fZ _ k _ rt (hs.take k) _ hH.2.1 (by omega)) ?_;rw[HAT];go_wp2_with fail
    refine hK.out _ _ ?_ (fun hH=>?_)
    .exact hH
    clear hK K;refine R1 9 ?_;refine R7 ?_;go_wp2;go_ret;exact⟨jK (HS.out HA.out).symm,hH.2.2⟩
  .obtain rfl:k=n:=by omega
   go_wp2;go_ret;exact⟨jK (by have h1:=HH.out;have h2:=HL.out;unfold cS;rw[<-h2];exact h1.symm),hB⟩
end
section
def lcells(ls:List Lock)(vs:List (Value×Value)):List Value:=(ls.zip vs).flatMap fun p=>[I J p.1.r,p.2.1,p.2.2]
theorem cH3{ls:List Lock}(h:ls.length=vs.length):(lcells ls vs).length=ls.length*3:=by
 induction ls generalizing vs with
 |nil=>simp[lcells]
 |cons l ls ih=>
  cases vs with
  |nil=>simp at h
  |cons v vs=>have:=ih (vs:=vs) (by simpa using h);simp only[lcells,List.zip_cons_cons,Cc,Bv,List.length_cons,List.length_nil]at*;omega
theorem wB{ls:List Lock}(h:ls.length=vs.length)(hp:vs[i]? =Y p):(lcells ls vs)[i*3]? =Y (I J (aI ls i).r)/\(lcells ls vs)[i*3+1]? =Y p.1/\(lcells ls vs)[i*3+2]? =Y p.2:=by
 induction ls generalizing vs i with
 |nil=>
  cases vs with
  |nil=>simp at hp
  |cons v vs=>simp at h
 |cons l ls ih=>
  cases vs with
  |nil=>simp at h
  |cons v vs=>
   cases i with
   |zero=>simp at hp;subst hp;simp[lcells,aI]
   |succ i=>have:=ih (vs:=vs) (i:=i) (by simpa using h) (by simpa using hp);simp only[lcells,List.zip_cons_cons,Cc,aI]at*;rw[show(i+1)*3=i*3+1+1+1 by omega];simpa using this
theorem cH4{ls:List Lock}(k:Nat)(l:Lock)(x y:Value)(h:ls.length=vs.length)(hk:k<ls.length):
  (((lcells ls vs).set (k*3) (I J l.r)).set (k*3+1) x).set (k*3+2) y=lcells (ls.set k l) (vs.set k (x,y)):=by
 induction ls generalizing vs k with
 |nil=>simp at hk
 |cons q ls ih=>
  cases vs with
  |nil=>simp at h
  |cons v vs=>
   cases k with
   |zero=>simp[lcells]
   |succ k=>have:=ih (vs:=vs) k (by simpa using h) (by simpa using hk);simp only[lcells,List.set_cons_succ,List.zip_cons_cons,Cc]at*;rw[<-this,show(k+1)*3=k*3+1+1+1 by omega];simp
theorem lV{ls ls':List Lock}(h:ls.length=vs.length):lcells (ls++ls') (vs++vs')=lcells ls vs++lcells ls' vs':=by unfold lcells;rw[List.zip_append h];simp
def blks(p:Value×Value):List Nat:=p.1.ownBlock.toList++p.2.ownBlock.toList
structure OwnK(T:TypeId)(w:World)(B:Nat)(v:Value)(n:Nat)(ls:List Lock)(vs:List (Value×Value)):Prop where
 len:ls.length=n
 vlen:vs.length=n
 row:w.ownsRow B T 3 v n (lcells ls vs)
 hs:∀i p,vs[i]? =Y p->w.ownsRow B 232 2 p.1 (aI ls i).hs.length (hcells (aI ls i).hs)
 qs:∀i p,vs[i]? =Y p->w.ownsRow B 232 2 p.2 (aI ls i).qs.length (hcells (aI ls i).qs)
 apart:(v.ownBlock.toList++vs.flatMap blks).Nodup
def cO8(T:TypeId)(w:World)(B:Nat)(v:Value)(n:Nat)(ls:List Lock):Prop:=∃vs,OwnK T w B v n ls vs
variable{T:TypeId}{w w':World}{B n:Nat}{v:Value}{ls:List Lock}{vs:List (Value×Value)}
theorem OwnK.below(h:OwnK T w B v n ls vs)(hb:V' w w'):OwnK T w' B v n ls vs:=
 ⟨h.len,h.vlen,aG h.row hb,fun i p hp=>aG (h.hs i p hp) hb,fun i p hp=>aG (h.qs i p hp) hb,h.apart⟩
theorem OwnK.base{B':Nat}(h:OwnK T w B v n ls vs)(hb:B'<=B):OwnK T w B' v n ls vs:=
 ⟨h.len,h.vlen,aQ h.row hb,fun i p hp=>aQ (h.hs i p hp) hb,fun i p hp=>aQ (h.qs i p hp) hb,h.apart⟩
theorem OwnK.got(h:OwnK T w B v n ls vs)(hi:i<n):∃p,vs[i]? =Y p:=⟨vs[i]'(by rw[h.vlen];exact hi),by simp⟩
theorem OwnK.in(h:OwnK T w B v n ls vs)(hp:vs[i]? =Y p):i<n:=by
 rcases Cd i n with h1|h1
 .exact h1
 .rw[Bk (by rw[h.vlen];exact h1)]at hp;cases hp
theorem OwnK.bd(h:OwnK T w B v n ls vs)(hp:vs[i]? =Y p)(hg:g∈blks p):B<=g/\g<w.heap.size:=by
 unfold blks at hg;simp only[Aj,Ee]at hg;rcases hg with hg|hg
 .exact aH (h.hs i p hp) g hg
 .exact aH (h.qs i p hp) g hg
theorem cI3{A P C P':List Nat}(h:(A++(P++C)).Nodup)(hp:P'.Nodup)(hd:∀g∈P',g∉A/\g∉C):(A++(P'++C)).Nodup:=by
 simp only[Cx,Aj]at*;obtain⟨hA,⟨_,hC,_⟩,hAP⟩:=h;refine⟨hA,⟨hp,hC,fun a ha b hb e=>(hd a ha).2 (e▸hb)⟩,fun a ha b hb e=>?_⟩;rcases hb with hb|hb
 .exact(hd b hb).1 (e▸ha)
 .exact hAP a ha b (.inr hb) e
theorem yC(hp:vs[k]? =Y p)(p':Value×Value):
  vs.flatMap blks=(vs.take k).flatMap blks++(blks p++(vs.drop (k+1)).flatMap blks)/\(vs.set k p').flatMap blks=(vs.take k).flatMap blks++(blks p'++(vs.drop (k+1)).flatMap blks):=by
 have hk:k<vs.length:=(Di.1 hp).1;have hpk:vs[k]=p:=by simpa[Ao hk]using hp
 constructor
 .conv=>lhs;rw[<-Ci k vs]
  rw[Ck hk,hpk];simp
 .rw[List.set_eq_take_append_cons_drop,if_pos hk];simp
theorem qC(h:g∈vs.flatMap blks):∃(i:Nat) (p:Value×Value),vs[i]? =Y p/\g∈blks p:=by rw[Cf]at h;obtain⟨p,hp,hg⟩:=h;obtain⟨i,hi,rfl⟩:=Co hp;exact⟨i,_,by simp[hi],hg⟩
theorem sG(h:(v.ownBlock.toList++vs.flatMap blks).Nodup)(hp:vs[i]? =Y p)(hv:v.ownBlock=Y g):g∉blks p:=by rw[Cx]at h;intro hg;exact h.2.2 g (by simp[hv]) g (Cf.2 ⟨p,Dv hp,hg⟩) rfl
theorem aL5(h:(vs.flatMap blks).Nodup)(hij:i<j)(hp:vs[i]? =Y p)(hq:vs[j]? =Y q)(hg:g∈blks p):g∉blks q:=by have e:=(yC hp p).1;rw[e]at h;simp only[Cx,Aj]at h;intro hgq;refine h.2.1.2.2 g hg g ?_ rfl;rw[Cf];refine⟨q,?_,hgq⟩;refine Dv (i:=j-(i+1)) ?_;rw[Df,<-hq];congr 1;omega
theorem vY(h:(v.ownBlock.toList++vs.flatMap blks).Nodup)(hij:i≠j)(hp:vs[i]? =Y p)(hq:vs[j]? =Y q)(hg:g∈blks p):g∉blks q:=by
 have h2:=(Cx.1 h).2.1;rcases Nat.lt_or_gt_of_ne hij with h1|h1
 .exact aL5 h2 h1 hp hq hg
 .exact fun hgq=>aL5 h2 h1 hq hp hgq hg
theorem cT2(h:(v.ownBlock.toList++vs.flatMap blks).Nodup)(hp:vs[i]? =Y p)(h1:p.1.ownBlock=Y g):p.2.ownBlock≠Y g:=by have e:=(yC hp p).1;rw[e]at h;simp only[Cx,blks]at h;intro h2;exact h.2.1.2.1.1.2.2 g (by simp[h1]) g (by simp[h2]) rfl
theorem yH(ls:List Lock)(k i:Nat)(l:Lock)(hk:k<ls.length):aI (ls.set k l) i=if k=i then l else aI ls i:=by
 unfold aI;split
 .next h=>subst h;simp[List.getD,hk]
 .next h=>simp[List.getD,h]
end
theorem bH4(w:World)(b o:Nat)(x y:Value):w.setCells b o [x,y]=(w.setCell ⟨b,o,O⟩ x).setCell ⟨b,o+1,O⟩ y:=rfl
theorem Slt.set2(h:Slt w b S)(hk:k<100)(o:Option Int):Slt ((w.setCell ⟨b,k*2,O⟩ (X o.isSome)).setCell ⟨b,k*2+1,O⟩ (I J (o.getD 0))) b (S.set k o):=by have:=h.put hk o;rw[Nat.mul_comm]at this;exact this
theorem Slt.cell2(h:Slt w b S)(hi:i<100):w.cell? ⟨b,i*2,O⟩=Y (X (S i).isSome)/\w.cell? ⟨b,i*2+1,O⟩=Y (I J ((S i).getD 0)):=by rw[Nat.mul_comm];exact h.cell hi
theorem Ch.Sl.set_set(S:Sl)(k:Int)(o p:Option Int):(S.set k o).set k p=S.set k p:=by
 funext q
 simp only[Sl.set];split<;>rfl
theorem pJ{s o:Nat}{v:Value}:w.grownBy (w.setCell ⟨s,o,O⟩ v) (Y s):=⟨rfl,rfl,rfl,by simp[World.setCell],fun k _ hne=>Bu _ _ _ _ (by intro e;exact hne (by rw[e]))⟩
theorem bC9{a b c:World}(h:a.grownBy b row)(k:b.grownBy c row):a.grownBy c row:=
 ⟨k.os.trans h.os,k.tape.trans h.tape,k.output.trans h.output,Ak h.size k.size,fun i hi hne=>(k.block i (At hi h.size) hne).trans (h.block i hi hne)⟩
theorem cT9(w:World)(ty b o c:Nat)(hc:∀j,j<2->(w.cell? ⟨b,o+j,O⟩).isSome=A')(hf:∀j,j<2->w.frozen? ⟨b,o+j,O⟩=F'):
  (Builtin.clear_ #[170] ty #[Z (Y ⟨b,o,O⟩) 1 c]).run prog w= .ok (.tuple #[]) (w.setCells b o [X F',I J 0]):=by
 have hv:∀W,(zeroValue 129).run prog W= .ok (U #[X F',I J 0]) W:=fun _=>by kernel_rfl
 have hzc:(Builtin.zeroCells (Value.cells (U #[X F',I J 0])) 1).toList=[X F',I J 0]:=by kernel_rfl
 have hst:=run_storeCells_cells (P:=prog) b o [X F',I J 0] 0 w (by simpa using hc) (by simpa using hf) (by decide);simp only[Nat.add_zero]at hst;simp[Builtin.clear_,Fr underlying170,hv,hzc,hst]
theorem cY8(b k:Nat)(hk:k<100)(w:World):
  (Instr.sliceAt 131 (.pointer (Y ⟨b,0,O⟩)) (Y (I J (k:Int))) (Y (I J ((k:Int)+1))) O).run prog w= .ok (Z (Y ⟨b,k*2,O⟩) 1 (100-k)) w:=by
 have ha:prog.underlying 131=Y (.array (prog.arrayLen 131) (prog.elem 131)):=by kernel_rfl
 have hl:prog.arrayLen 131=100:=by kernel_rfl
 have he:prog.elem 131=129:=by kernel_rfl
 have hs:=Tryz.sizeOf129;rw[<-he]at hs;rw[run_sliceAt_array_lh (ht:=ha) (h0:=by omega) (h1:=by omega) (h2:=by rw[hl];omega),hs];have e1:(k:Int).toNat=k:=by omega
 have e2:((k:Int)+1).toNat=k+1:=by omega
 rw[hl,e1,e2];unfold Result.andThen slicedAt;dsimp only;rw[if_neg (by omega),aI3,Al,show k+1-k=1 by omega]
theorem cS2(b:Nat)(ky:Int)(hs:Bool)(nw:Int)(S:Sl)(w:World)(h:Slt w b S)(hk:0<=ky/\ky<=99):
  Calls prog 81 #[.pointer (Y ⟨b,0,O⟩),I J ky,X hs,I J nw] w fun e w'=>e=R' (.tuple #[])/\Slt w' b (S.set ky (uH hs nw))/\w.grownBy w' (Y b):=by
 obtain⟨k,rfl⟩:∃k:Nat,ky=k:=⟨ky.toNat,by omega⟩
 have hk':k<100:=by omega
 have hsl:=cY8 b k hk';have c2:=h.cell2 hk';have hcl:=fun ty c=>cT9 w ty b (k*2) c (fun j hj=>by match j,hj with|0,_=>rw[Nat.add_zero,c2.1];rfl|1,_=>rw[c2.2];rfl) (fun j _=>h.frozen _);rw[bH4]at hcl;have h1:=h.set2 hk' O;have g1:w.grownBy ((w.setCell ⟨b,k*2,O⟩ (X F')).setCell ⟨b,k*2+1,O⟩ (I J 0)) (Y b):=bC9 pJ pJ;simp only[Option.isSome_none,Option.getD_none]at h1;generalize hW:(w.setCell ⟨b,k*2,O⟩ (X F')).setCell ⟨b,k*2+1,O⟩ (I J 0)=W1 at*;have f0:=h1.frozen (k*2);have f1:=h1.frozen (k*2+1);have c1:=h1.cell2 hk';obtain⟨d0,d1⟩:=c1;have hll:=h1.lt;clear c2 hW;cases hs
 .have HE:Hid (uH F' nw=O):=rfl;rw[HE.out];clear d0 d1 f0 f1;go_enter func81,ntmps81
  go_wp2;exact Er (Ek rfl _ _ _) rfl ⟨rfl,h1,g1⟩
 .have HE:Hid (uH A' nw=Y nw):=rfl;rw[HE.out];have h2:=h1.set2 hk' (Y nw);rw[Sl.set_set]at h2;have g2:=bC9 (bC9 g1 (pJ (w:=W1) (s:=b) (o:=k*2) (v:=X A'))) (pJ (s:=b) (o:=k*2+1) (v:=I J nw));go_enter func81,ntmps81
  go_wp2;exact Er (Ek rfl _ _ _) rfl ⟨rfl,h2,g2⟩
theorem bD3{l:List Row}(hp:l.Pairwise (fun a b=>a.k<b.k))(hm:∃x∈l,x.k=r.k):(eO r l).length=l.length:=by
 induction l with
 |nil=>obtain⟨x,hx,_⟩:=hm;cases hx
 |cons y l ih=>
  rw[Cw]at hp;unfold eO;obtain⟨x,hx,hk⟩:=hm;by_cases hy:y.k<r.k
  .rw[if_pos hy];rcases Am.1 hx with rfl|hx
   .omega
   .simp[ih hp.2 ⟨x,hx,hk⟩]
  .rw[if_neg hy];have hyk:y.k=r.k:=by
    rcases Am.1 hx with rfl|hx
    .exact hk
    .have:=hp.1 x hx;omega
   have h1:dX r.k y=F':=by simp[dX,hyk]
   have h2:l.filter (dX r.k)=l:=List.filter_eq_self.2 fun z hz=>by have:=hp.1 z hz;simp[dX];omega
   rw[Fh (by rw[h1];exact Da),h2];simp
theorem bC4(ls:List (List Row))(i:Nat)(h:i<ls.length)(m:List (List Row)):(ls.take i++m++ls.drop (i+1)).flatten.length+(ls.getD i []).length=ls.flatten.length+m.flatten.length:=by
 have e:ls=ls.take i++[ls.getD i []]++ls.drop (i+1):=by rw[<-bZ ls [] i h,Ci]
 have:ls.flatten.length=(ls.take i).flatten.length+(ls.getD i []).length+(ls.drop (i+1)).flatten.length:=by
  conv=>lhs;rw[e]
  simp;omega
 simp at this⊢;omega
theorem bG5(hg:aL ls=0)(r:Row)(hf:(iL ls r.k).isSome=A'):(Ch.put ls r).length=ls.length:=by
 obtain⟨x,hx⟩:=Option.isSome_iff_exists.1 hf;unfold iL at hx;have hxm:=List.mem_of_find?_eq_some hx;have hxk:x.k=r.k:=by have:=List.find?_some hx;simpa using this
 obtain⟨_,h4,_,hp⟩:=(kI ls).1 hg;have hl:=bD3 (r:=r) hp ⟨x,hxm,hxk⟩;rw[<-aE8 hg]at hl;have hne:ls.length≠0:=by intro h0;have:ls=[]:=Dn h0;subst this;simp at hxm
 have hfi:fW ls r.k ls.length<ls.length:=oQ (by omega);unfold Ch.put at hl⊢;rw[if_neg hne]at hl⊢;generalize fW ls r.k ls.length=i at*;have h3:=bC4 ls i hfi (gZ (eO r (ls.getD i [])));rw[zK]at h3;have hi4:(ls.getD i []).length<=4:=(h4 (ls.getD i []) (by simp[List.getD,hfi])).2;have hlen:(eO r (ls.getD i [])).length<=4:=by omega
 unfold gZ;rw[if_pos hlen];simp;omega
def jU(ls:List (List Row))(tx:Int)(bs:List Bf):Int:=if aL ls !=0 then aL ls else if inB tx 1 999 then cY bs else 3
theorem wW(b:Bf):cY [b]=b.fault:=by
 unfold cY;rw[if_neg (by simp)];unfold eN;cases h:(b.fault !=0)
 .have:b.fault=0:=by simpa using h
  rw[this];rfl
 .simp
def dU(ls:List (List Row))(key:Int)(has:Bool)(v:Int):Int×List (List Row):=
 if has then(if 60<(Ch.put ls ⟨key,v,F'⟩).length then(2,[])else(0,Ch.put ls ⟨key,v,F'⟩))
 else if(iL ls key).isSome then(0,Ch.put ls ⟨key,0,A'⟩)else(0,ls)
def oG(kd:Int)(ls:List (List Row))(tx key:Int)(has:Bool)(v:Int):Rec:=⟨kd,tx,key,(Ch.bf key (Ch.has ls key)).h,(Ch.bf key (Ch.has ls key)).v,has,v⟩
def jF(ls:List (List Row))(tx key:Int)(has:Bool)(v:Int):Int×List (List Row)×List Rec:=
 if jU ls tx [⟨key,has,v⟩] !=0 then(jU ls tx [⟨key,has,v⟩],[],[])else
  if(dU ls key has v).1 !=0 then((dU ls key has v).1,[],[])else(0,(dU ls key has v).2,[oG 2 ls tx key has v])
theorem aA3(h:jU ls tx [⟨key,has,v⟩]=c)(hc:(c !=0)=A'):jF ls tx key has v=(c,[],[]):=by rw[jF,h,if_pos hc]
theorem tI(h:jU ls tx [⟨key,has,v⟩]=0)(hs:(dU ls key has v).1=c)(hc:(c !=0)=A'):jF ls tx key has v=(c,[],[]):=by rw[jF,h,if_neg (by decide),hs,if_pos hc]
theorem yM(h:jU ls tx [⟨key,has,v⟩]=0)(hs:(dU ls key has v).1=0):jF ls tx key has v=(0,(dU ls key has v).2,[oG 2 ls tx key has v]):=by rw[jF,h,if_neg (by decide),hs,if_neg (by decide)]
theorem bH5(h:jU ls tx [⟨key,has,v⟩]=0):aL ls=0/\inB tx 1 999=A'/\inB key 0 99=A'/\inB v 0 9999=A'/\(has=F'->v=0):=by
 unfold jU at h;rw[wW]at h;by_cases h1:(aL ls !=0)=A'
 .rw[if_pos h1]at h;rw[h]at h1;cases h1
 .rw[if_neg h1]at h;by_cases h2:inB tx 1 999=A'
  .rw[if_pos h2]at h;unfold Bf.fault at h;by_cases h3:(!inB key 0 99||!inB v 0 9999)=A'
   .rw[if_pos h3]at h;cases h
   .rw[if_neg h3]at h;by_cases h4:(!has&&v !=0)=A'
    .rw[if_pos h4]at h;cases h
    .simp only[Dy,Ec,not_or,Bool.not_eq_false]at h3;refine⟨by simpa using h1,h2,h3.1,h3.2,fun hh=>?_⟩;subst hh;simpa using h4
  .rw[if_neg h2]at h;cases h
theorem bL5(hg:aL ls=0)(hk:inB key 0 99=A'):aC5 ls key=0:=by unfold aC5;rw[hg,hk];rfl
theorem bT9(hk:inB key 0 99=A')(hv:inB v 0 9999=A'):(⟨key,v,F'⟩:Row).fault=0:=by unfold Row.fault dQ;simp[hk,hv]
theorem aT0(hk:inB key 0 99=A'):(⟨key,0,A'⟩:Row).fault=0:=by
 unfold Row.fault dQ;have h0:inB 0 0 9999=A':=by decide
 simp[hk,h0]
theorem xO(hf:iL ls key=O):dU ls key F' v=(0,ls):=by unfold dU;rw[hf];rfl
theorem jC(hg:aL ls=0):aW ls<=1048576:=by
 obtain⟨h1,h2,_,_⟩:=(kI ls).1 hg;have:∀(xs:List (List Row)),(∀l∈xs,l.length<=4)->(xs.map List.length).sum<=4*xs.length:=by
  intro xs;induction xs with
  |nil=>intro _;simp
  |cons x xs ih=>intro h;have:=ih (fun l hl=>h l (Ba _ hl));have:=h x (Bj ..);simp;omega
 have:=this ls (fun l hl=>(h2 l hl).2);unfold aW;omega
theorem sB(h:jU ls tx [⟨key,has,v⟩]=0)(hs:(dU ls key has v).1=0):aL (dU ls key has v).2=0:=by
 obtain⟨hg,_,hk,hv,_⟩:=bH5 h;cases has
 .cases hf:iL ls key with
  |none=>rw[xO hf];exact hg
  |some r=>
   have hi:(iL ls key).isSome=A':=by rw[hf];rfl
   have h1:=bG5 hg ⟨key,0,A'⟩ hi;have h2:=((kI ls).1 hg).1;have e:dU ls key F' v=(0,Ch.put ls ⟨key,0,A'⟩):=by unfold dU;rw[hi];rfl
   rw[e];exact xK hg (aT0 hk) (by omega)
 .unfold dU at hs⊢;rw[if_pos rfl]at hs⊢;by_cases hm:60<(Ch.put ls ⟨key,v,F'⟩).length
  .rw[if_pos hm]at hs;cases hs
  .rw[if_neg hm];exact xK hg (bT9 hk hv) (by omega)
theorem aU6:aW (jF ls tx key has v).2.1<=1048576/\(jF ls tx key has v).2.2.length<=1:=by
 by_cases h:jU ls tx [⟨key,has,v⟩]=0
 .by_cases hs:(dU ls key has v).1=0
  .rw[yM h hs];exact⟨jC (sB h hs),by simp⟩
  .rw[tI h rfl (by simpa using hs)];exact⟨by simp[aW],by simp⟩
 .rw[aA3 rfl (by simpa using h)];exact⟨by simp[aW],by simp⟩
def xF(lo hi:Int)(r:Row):Bool:=inB r.k lo hi&&!r.g
def pD(lo hi:Int)(rs:List Row):List Row:=rs.filter (xF lo hi)
theorem bU4(h:k<rs.length)(hin:xF lo hi (rs.getD k Row.zero)=A'):pD lo hi (rs.take (k+1))=pD lo hi (rs.take k)++[rs.getD k Row.zero]:=by rw[bZ rs Row.zero k h];generalize rs.getD k Row.zero=r at*;unfold pD;rw[Bl];simp[hin]
theorem cJ6(h:k<rs.length)(hin:xF lo hi (rs.getD k Row.zero)=F'):pD lo hi (rs.take (k+1))=pD lo hi (rs.take k):=by rw[bZ rs Row.zero k h];generalize rs.getD k Row.zero=r at*;unfold pD;rw[Bl];simp[hin]
theorem lG{t:TypeId}{H:Nat}(hH:H=w.heap.size):CellsAt (w.alloc (M #[I J r.k,I J r.v,X r.g] t)) (Y ⟨H,0,O⟩) (1*3) (rcells [r]):=by subst hH;refine⟨rfl,fun _=>⟨_,_,rfl,fun i hi=>?_⟩⟩;rw[Al];have:=Ai (w.alloc (M #[I J r.k,I J r.v,X r.g] t)) _ i _ _ _ (Ar w _);rw[this];simp[rcells]
theorem rP{o:Oper}{a:Act}(s x:Operand)
  (B:Nat) (v:Value) (n:Nat) (rs:List Row) (m:Nat) (zs:List Row) (hm:n+m<=2097152) (hm0:0<m)
  (ho:o.op= .call {callee:=.builtin .append,args:=#[s,x],argTypes:=#[24,24]}) (hgd:o.guard=O)
  (hs:a.eval s=v) (hx:∃ad c,a.eval x=Z (Y ad) m c/\CellsAt w (Y ad) (m*3) (rcells zs))
  (hown:w.ownsRow B 86 3 v n (rcells rs)) (hbase:B<=w.heap.size)
  (hK:∀a' c' w',w'.ownsRow B 86 3 (Z a' (n+m) c') (n+m) (rcells (rs++zs))->w.grownBy w' v.ownBlock->(∀g,(Z a' (n+m) c').ownBlock=Y g->v.ownBlock=Y g\/w.heap.size<=g)->wpList prog ops Q rest (a.put o.dst (Z a' (n+m) c')) w'):
  wpList prog ops Q (o::rest) a w:=by
 obtain⟨ad,c,hx,hc⟩:=hx;obtain⟨i0,hi,hz0,hz1,hz2⟩:=Bz Tryz.info86;refine wpList_append_lies w hgd s x 24 ho B 86 i0 _ 3 24 underlying24 hi hz0 hz1 hz2 rfl (by omega) v n (rcells rs) hs hown ad m c (rcells zs) hx hc.1 ?_ (aO6 zs) hm0 (by unfold maxLen;omega) (by omega) hbase _ rfl ?_
 .intro j u hj;have hjl:j<(rcells zs).length:=(Di.1 hj).1;have hl:=hc.1;obtain⟨b,off,ha,hcc⟩:=hc.2 (by omega);simp only[Af]at ha;subst ha;have e:(⟨b,off,O⟩:Addr).add j=⟨b,off+j,O⟩:=by
   unfold Addr.add;split
   .next h0=>subst h0;rfl
   .rfl
  rw[e,hcc j (by omega),hj]
 .intro g cp' w' hown' hgrow hat hlt;rw[<-oM]at hown';refine hK _ _ w' hown' hgrow fun g' hg'=>?_;simp[Value.ownBlock]at hg';subst hg';rcases hat with hat|hat
  .exact .inl hat
  .exact .inr (by omega)
theorem bH7(a:Option Addr)(n cap:Nat)(lo hi:Int)(ls:List (List Row))(w:World)(h:LvAt w a n ls)(hs:aW ls<=1048576)(hg:∀k,k<n->(ls.getD k []).length≠0):
  Calls prog 209 #[Z a n cap,I J lo,I J hi] w fun e w'=>∃a' m c',e=R' (Z a' m c')/\m<=1048576/\w'.ownsRow w.heap.size 86 3 (Z a' m c') m (rcells (pD lo hi ls.flatten))/\V' w w':=by
 have HL:=h.len;have hfl:=oJ hs ls.length;rw[Be]at hfl;have o0:=kH w w.heap.size z';have b0:V' w (w.alloc (M #[] 86)):=(Aa _ _).alloc z' _;go_enter func209,ntmps209
 go_wp2_with fail
 refine(tN a n cap ls _ (h.below b0) hs hg).mono ?_;rintro e w1⟨a1,c1,rfl,own1,b1⟩;have o1:=aG o0 b1;have b1':=b0.trans (b1.mono b0.size);have z1:=b1.size;simp at z1;have L1:∀b off,a1=Y ⟨b,off,O⟩->w.heap.size<b/\b<w1.heap.size:=by
  intro b off hb;subst hb;rcases own1.2 with⟨hv,_⟩|⟨g,cp,cur,hv,_⟩
  .simp at hv
  .have:=aH own1 g (by rw[hv];rfl);simp only[Bg,Af,Ap]at hv;obtain⟨⟨rfl,_⟩,_⟩:=hv;simp at this;omega
 have C1:=aO own1;have HN:=C1.rlen;generalize hF:ls.flatten=F at*;generalize hnf:F.length=nf at*;go_wp2;go_loopw [7,9] (fun q i wr=>∃(k m:Nat) (a':Option Addr) (c':Nat),k<=nf/\m<=k/\i=I J k/\q=Z a' m c'/\wr.ownsRow w.heap.size 86 3 (Z a' m c') m (rcells (pD lo hi (F.take k)))/\Hid (∀g,(Z a' m c').ownBlock=Y g->g=w.heap.size\/w1.heap.size<=g)/\CellsAt wr a1 (nf*3) (rcells F)/\w1.heap.size<=wr.heap.size/\V' w wr) (fun _ i _=>nf-(intOf i).toNat)
 case atStart=>exact⟨0,0,_,_,Ad _,z',rfl,rfl,by simpa[pD]using o1,(fun g hg=>by simp[Value.ownBlock]at hg;exact .inl hg.symm),C1,z',b1'⟩
 case round=>
  obtain⟨k,m,a',c',hk,hmk,rfl,rfl,own,HO,C,hsz,hB⟩:=hrel;by_cases hlt:k<nf
  .obtain⟨b,off,rfl,hc0,hc1,hc2⟩:=C.row hlt;have hLb:=L1 b off rfl;have HY:=hid (fun hin=>bU4 (lo:=lo) (hi:=hi) (rs:=F) (k:=k) (by omega) hin);have HNo:=hid (fun hin=>cJ6 (lo:=lo) (hi:=hi) (rs:=F) (k:=k) (by omega) hin);generalize F.getD k Row.zero=r at*;have hsum:m+1<=2097152:=by omega
   generalize pD lo hi (F.take k)=S at*;obtain⟨rk,rv,rg⟩:=r;simp only[xF]at hc0 hc1 hc2 HY HNo;cases hin:inB rk lo hi
   .go_wp2_with fail
    refine(cU rk lo hi _).mono ?_;rintro e w2⟨rfl,rfl⟩;rw[hin];go_wp2;go_roundw;case rel=>exact⟨k+1,m,a',c',by omega,by omega,by go_num,rfl,by rw[HNo.out (by simp[hin])];exact own,HO,C,hsz,hB⟩
    case measure=>simp[intOf];omega
   .cases rg
    .go_wp2_with fail
     refine(cU rk lo hi _).mono ?_;rintro e w2⟨rfl,rfl⟩;rw[hin];have bA:∀o,V' w2 (w2.alloc o):=fun o=>(Aa _ _).alloc z' _;go_wp2_with(at_builtin;go_must (refine rP (.tmp 35) (.tmp 40) w.heap.size (Z a' m c') m S 1 [⟨rk,rv,F'⟩] hsum (by omega) ?_ ?_ ?_ ?_ ?_ ?_ ?_;exact rfl;exact rfl;exact rfl;exact⟨_,_,rfl,lG (r:=⟨rk,rv,F'⟩) rfl⟩;exact aG own (bA _);(focus(simp;omega));intro a3 c3 w3 own3 gr3 at3))
     go_roundw;case rel=>
      refine⟨k+1,m+1,a3,c3,by omega,by omega,by go_num,rfl,by rw[HY.out (by simp[hin])];exact own3,?_,?_,?_,?_⟩
      .intro g hg;rcases at3 g hg with h1|h1
       .exact HO.out g h1
       .right;simp at h1;omega
      .refine kG (C.below (bA _)) gr3 ?_;intro b' off' hb' hrow;simp only[Af,Ap,Cn]at hb';obtain⟨rfl,rfl⟩:=hb';rcases HO.out _ hrow with h1|h1<;>omega
      .have:=gr3.size;simp at this;omega
      .refine(hB.alloc hB.size _).grown gr3 (by simp;omega) ?_;intro k' hk';rcases HO.out _ hk' with h1|h1<;>omega
     case measure=>simp[intOf];omega
    .go_wp2_with fail
     refine E' (cU rk lo hi _) ?_;rw[hin];go_wp2;go_roundw;case rel=>exact⟨k+1,m,a',c',by omega,by omega,by go_num,rfl,by rw[HNo.out (by simp[hin])];exact own,HO,C,hsz,hB⟩
     case measure=>simp[intOf];omega
  .obtain rfl:k=nf:=by omega
   go_wp2;go_ret;rw[Bb (by omega)]at own;exact⟨a',m,c',rfl,by omega,by rw[hF];exact own,hB⟩
end Go.Proofs.YtpbbokalojdooaaGreat
