import Derived.Test.YtpbbokalojdooaaGreatQag
namespace Go.Proofs.YtpbbokalojdooaaGreat
open Go.RowKit Ch Go.Proofs.Tryz
set_option linter.unusedSimpArgs false
set_option linter.unusedVariables false
set_option maxRecDepth 20000
set_option maxHeartbeats 8000000
open Value renaming int->I,slice->Z,bool->X,agg->U
open IntKind renaming i64->J
open Option renaming none->O,some->Y
open Obj renaming cells->M
open Ending renaming returned->R'
open Bool renaming true->A',false->F'
variable {ops:Array Oper} {Q:Exit->Act->World->Prop} {h:Hold} {b hi lo:Int} {hs hs' l qs:List Hold} {zs:List Int} {ls:List Lock} {rest:List Oper} {F rs:List Row} {vs:List Value} {B k n:Nat} {a ah aq:Option Addr} {t:TypeId} {u v:Value} {w w' w1:World}
namespace Ch
theorem cN4(a b:Int):kH a b=kH b a:=by
 cases ha:isM a
 .simp[kH,ha]
 cases hb:isM b
 .simp[kH,hb]
 rcases dE ha with rfl|rfl|rfl|rfl|rfl|rfl;all_goals rcases dE hb with rfl|rfl|rfl|rfl|rfl|rfl
 all_goals rfl
theorem cN3{a c x:Int}(h:eB c a=A')(hx:kH c x=A'):kH a x=A':=by
 have h1:isM c=A'/\isM a=A':=by simp[eB]at h;exact⟨h.1.1,h.1.2⟩
 have h2:isM x=A':=by simp[kH]at hx;exact hx.1.2
 obtain⟨hc,ha⟩:=h1;rcases dE hc with rfl|rfl|rfl|rfl|rfl|rfl;all_goals rcases dE ha with rfl|rfl|rfl|rfl|rfl|rfl
 all_goals first|exact absurd h (by decide)|skip
 all_goals rcases dE h2 with rfl|rfl|rfl|rfl|rfl|rfl
 all_goals first|rfl|exact absurd hx (by decide)
theorem uS{a:Int}(ha:isM a=A')(hb:isM b=A'):eB (eN a b) a=A'/\eB (eN a b) b=A':=by
 rcases dE ha with rfl|rfl|rfl|rfl|rfl|rfl;all_goals rcases dE hb with rfl|rfl|rfl|rfl|rfl|rfl
 all_goals exact⟨rfl,rfl⟩
theorem dD1{a:Int}(ha:isM a=A')(hb:isM b=A')(h:eB a b=F'):eN a b≠a:=by intro e;have:=(uS ha hb).2;rw[e,h]at this;cases this
theorem cO2{a:Int}(ha:isM a=A')(hb:inB b 1 5=A'):inB (eN a b) 1 5=A':=by
 simp only[inB,Bool.and_eq_true,decide_eq_true_eq]at hb;obtain rfl|rfl|rfl|rfl|rfl:b=1\/b=2\/b=3\/b=4\/b=5:=by omega
 all_goals rcases dE ha with rfl|rfl|rfl|rfl|rfl|rfl
 all_goals rfl
theorem dH{t:Int}:aV l t=A'↔∃h∈l,h.t=t:=by simp[aV]
theorem mL{t:Int}:aV l t=F'↔∀h∈l,h.t≠t:=by rw[<-Bool.not_eq_true,dH];simp
theorem rR(h2:cP l=F')(hm:h∈l):bQ l h.t=h.m:=by
 rw[fX]at h2;rcases eA l h.t with⟨he,_,_⟩|⟨k,hk,_,_,ht,hmm⟩
 .exact absurd rfl (mL.1 he h hm)
 .rw[hmm];obtain⟨i,hi,rfl⟩:=List.mem_iff_getElem.1 hm;rw[List.getD_eq_getElem?_getD,List.getElem?_eq_getElem hk]at ht⊢;simp only[Option.getD_some]at ht⊢;rcases Nat.lt_trichotomy k i with hki|hki|hki
  .exact absurd ht (List.pairwise_iff_getElem.1 h2 k i hk hi hki)
  .subst hki;rfl
  .exact absurd ht.symm (List.pairwise_iff_getElem.1 h2 i k hi hk hki)
theorem putH_mem{x:Hold}(h2:cP hs=F'):x∈iS hs h↔x=h\/(x∈hs/\x.t≠h.t):=by
 rw[fX]at h2;rcases eA hs h.t with⟨he,ha,_⟩|⟨k,hk,ha,he,ht,_⟩
 .rw[pF he,List.mem_append,List.mem_singleton];constructor
  .rintro(hx|hx)
   .exact .inr ⟨hx,mL.1 he x hx⟩
   .exact .inl hx
  .rintro(hx|⟨hx,_⟩)
   .exact .inr hx
   .exact .inl hx
 .rw[qT he ha];rw[List.getD_eq_getElem?_getD,List.getElem?_eq_getElem hk,Option.getD_some]at ht;constructor
  .intro hx;obtain⟨i,hi,rfl⟩:=List.mem_iff_getElem.1 hx;rw[List.getElem_set];split
   .exact .inl rfl
   .next hki=>
    have hi':i<hs.length:=by simpa using hi
    refine .inr ⟨List.getElem_mem hi',fun e=>?_⟩;rcases Nat.lt_trichotomy k i with h3|h3|h3
    .exact List.pairwise_iff_getElem.1 h2 k i hk hi' h3 (ht.trans e.symm)
    .exact hki h3
    .exact List.pairwise_iff_getElem.1 h2 i k hi' hk h3 (e.trans ht.symm)
  .rintro(rfl|⟨hx,hne⟩)
   .exact List.mem_iff_getElem.2 ⟨k,by simpa using hk,by simp⟩
   .obtain⟨i,hi,rfl⟩:=List.mem_iff_getElem.1 hx;have hki:k≠i:=fun e=>by subst e;exact hne ht
    exact List.mem_iff_getElem.2 ⟨i,by simpa using hi,by rw[List.getElem_set_ne hki]⟩
theorem cX7(n k:Nat)(h1:∀i,k<=i->i<k+n->jC ls i=0)(h2:cP (cH ls)=F'):oJ ls n k=0:=by
 induction n generalizing k with
 |zero=>unfold oJ;rw[h2];rfl
 |succ n ih=>unfold oJ;rw[if_neg (by simp[h1 k z' (by omega)])];exact ih _ fun i hi hj=>h1 i (by omega) (by omega)
theorem bL8(h1:∀i,i<ls.length->0<=(aH ls i).r/\(aH ls i).r<=100/\(0<i->(aH ls (i-1)).r<(aH ls i).r)/\dF (aH ls i)=0)(h2:cP (cH ls)=F'):aS ls=0:=by refine cX7 _ _ (fun i _ hi=>?_) h2;obtain⟨a,b,c,d⟩:=h1 i (by omega);rw[xZ (by simp[inB];omega) (fun⟨h0,hl⟩=>by have:=c h0;omega)];exact d
theorem dD3{l:Lock}(h1:l.hs.length<=20)(h2:l.qs.length<=20)(h3:aZ l.hs=A')(h4:aZ l.qs=A')(h5:cP l.hs=F')(h6:cP l.qs=F')(h7:0<l.hs.length+l.qs.length)(h8:iQ l.hs=A')(h9:qOk l.hs l.qs=A')(h10:eC l.hs l.qs=F'):dF l=0:=by refine bL7 (by omega) (by rw[h3,h4];rfl) (by rw[h5,h6];rfl) ?_;rw[h8,h9,h10,show(l.hs.length+l.qs.length==0)=F' by rw[beq_eq_false_iff_ne];omega];rfl
theorem qD(l:List Hold):cP l=F'↔(l.map (·.t)).Nodup:=by rw[fX,List.Nodup,List.pairwise_map]
theorem pX(h2:cP hs=F')(h:Hold):cP (iS hs h)=F':=by
 rw[qD]at h2⊢;rcases eA hs h.t with⟨he,ha,_⟩|⟨k,hk,ha,he,ht,_⟩
 .rw[pF he,List.map_append,List.nodup_append];refine⟨h2,by simp,fun a ha b hb e=>?_⟩;obtain⟨x,hx,rfl⟩:=List.mem_map.1 ha;simp at hb;exact mL.1 he x hx (e.trans hb)
 .rw[qT he ha,List.map_set];rw[List.getD_eq_getElem?_getD,List.getElem?_eq_getElem hk,Option.getD_some]at ht;have e:(hs.map (·.t)).set k h.t=hs.map (·.t):=by rw[<-ht];have:=List.set_getElem_self (by simpa using hk:k<(hs.map (·.t)).length);simpa using this
  rw[e];exact h2
theorem tN(h2:cP hs=F')(h:Hold)(s:Int):aV (iS hs h) s=(aV hs s||h.t==s):=by
 rw[Bool.eq_iff_iff,dH,Bool.or_eq_true,dH,beq_iff_eq];constructor
 .rintro⟨x,hx,rfl⟩;rcases(putH_mem h2).1 hx with rfl|⟨hx,_⟩
  .exact .inr rfl
  .exact .inl ⟨x,hx,rfl⟩
 .rintro(⟨x,hx,rfl⟩|rfl)
  .by_cases e:x.t=h.t
   .exact⟨h,(putH_mem h2).2 (.inl rfl),e.symm⟩
   .exact⟨x,(putH_mem h2).2 (.inr ⟨hx,e⟩),rfl⟩
  .exact⟨h,(putH_mem h2).2 (.inl rfl),rfl⟩
theorem aX2(h2:cP hs=F')(h:Hold){s:Int}(hs':s≠h.t):bQ (iS hs h) s=bQ hs s:=by
 have hne:(h.t==s)=F':=by rw[beq_eq_false_iff_ne];exact fun e=>hs' e.symm
 cases hh:aV hs s
 .have h1:aV (iS hs h) s=F':=by rw[tN h2,hh,hne];rfl
  unfold bQ;rw[hh,h1];rfl
 .obtain⟨x,hx,rfl⟩:=dH.1 hh;rw[rR h2 hx,rR (pX h2 h) ((putH_mem h2).2 (.inr ⟨hx,hs'⟩))]
theorem aA1{t m:Int}:eJ l t m=A'↔∀y∈l,y.t=t\/kH y.m m=A':=by simp[eJ]
theorem xH:iQ l=A'↔∀x∈l,∀y∈l,y.t=x.t\/kH y.m x.m=A':=by simp[iQ,eJ]
theorem bO3(h2:cP hs=F')(ha:iQ hs=A')(hf:eJ hs h.t h.m=A'):iQ (iS hs h)=A':=by
 rw[xH]at ha⊢;rw[aA1]at hf;intro x hx y hy;rcases(putH_mem h2).1 hx with ex|⟨hx1,nx⟩<;>rcases(putH_mem h2).1 hy with ey|⟨hy1,ny⟩
 .subst ex;exact .inl (by rw[ey])
 .subst ex;exact hf y hy1
 .subst ey;rcases hf x hx1 with e|e
  .exact .inl e.symm
  .exact .inr (by rw[cN4];exact e)
 .exact ha x hx1 y hy1
theorem cM4(h:∀q∈qs,aV hs' q.t=aV hs q.t):cY hs' qs=cY hs qs:=by
 induction qs with
 |nil=>rfl
 |cons q qs ih=>unfold cY;rw[h q (by simp),ih fun x hx=>h x (by simp[hx])]
theorem cY7(h:∀q∈qs,aV hs' q.t=aV hs q.t/\bQ hs' q.t=bQ hs q.t):qOk hs' qs=qOk hs qs:=by
 have hc:=cM4 (hs:=hs) (hs':=hs') (qs:=qs) fun q hq=>(h q hq).1;rw[Bool.eq_iff_iff,qOk,qOk,lZ,lZ];have hstep:∀i,i<qs.length->lY hs' qs i=lY hs qs i:=by
  intro i hi;have hm:qs.getD i Hold.zero∈qs:=by rw[List.getD_eq_getElem?_getD,List.getElem?_eq_getElem hi];exact List.getElem_mem hi
  obtain⟨a,b⟩:=h _ hm;unfold lY;rw[a,b,hc]
 exact⟨fun k i hi=>(hstep i hi).symm.trans (k i hi),fun k i hi=>(hstep i hi).trans (k i hi)⟩
structure Gd(l:Lock):Prop where
 hl:l.hs.length<=20
 ql:l.qs.length<=20
 hn:aZ l.hs=A'
 qn:aZ l.qs=A'
 h2:cP l.hs=F'
 q2:cP l.qs=F'
 fit:iQ l.hs=A'
 ord:qOk l.hs l.qs=A'
 head:eC l.hs l.qs=F'
theorem Gd.of{l:Lock}(h:dF l=0):Gd l:=by obtain⟨a,b,c,d,e,f,_,g,i,j⟩:=fN h;exact⟨a,b,c,d,e,f,g,i,j⟩
theorem Gd.new(r:Int):Gd ⟨r,[],[]⟩:=⟨by simp,by simp,rfl,rfl,rfl,rfl,rfl,rfl,rfl⟩
theorem Gd.good{l:Lock}(h:Gd l)(hp:0<l.hs.length+l.qs.length):dF l=0:=dD3 h.hl h.ql h.hn h.qn h.h2 h.q2 hp h.fit h.ord h.head
theorem aA8(hh:aV hs h.t=A'):(iS hs h).length=hs.length:=by unfold iS;rw[if_pos hh];simp
theorem aX1(hh:aV hs h.t=F'):(iS hs h).length=hs.length+1:=by rw[pF hh];simp
theorem Gd.put{l:Lock}(g:Gd l)(hn:lU h=A')(hf:eJ l.hs h.t h.m=A')(hw:aV l.qs h.t=F')(hr:aV l.hs h.t=A'\/l.hs.length<20)
  (hc:(aV l.hs h.t=A'/\eB h.m (bQ l.hs h.t)=A')\/l.qs=[]):Gd ⟨l.r,iS l.hs h,l.qs⟩:=by
 have hq:∀q∈l.qs,aV (iS l.hs h) q.t=aV l.hs q.t/\bQ (iS l.hs h) q.t=bQ l.hs q.t:=by intro q hm;have hne:q.t≠h.t:=mL.1 hw q hm;refine⟨?_,aX2 g.h2 h hne⟩;rw[tN g.h2,show(h.t==q.t)=F' by rw[beq_eq_false_iff_ne];exact fun e=>hne e.symm,Bool.or_false]
 refine⟨?_,g.ql,kU g.hn hn,g.qn,pX g.h2 h,g.q2,bO3 g.h2 g.fit hf,(cY7 hq).trans g.ord,?_⟩
 .cases hh:aV l.hs h.t
  .rw[aX1 hh];rcases hr with hr|hr
   .rw[hh]at hr;cases hr
   .omega
  .rw[aA8 hh];exact g.hl
 .rcases hc with⟨hh,hcv⟩|he
  .rcases Nat.eq_zero_or_pos l.qs.length with h0|h0
   .have:l.qs=[]:=List.length_eq_zero_iff.1 h0;simp only[this];rfl
   .have hh1:=g.head;simp only;rw[jT h0]at hh1⊢;have hm:l.qs.getD 0 Hold.zero∈l.qs:=by rw[List.getD_eq_getElem?_getD,List.getElem?_eq_getElem h0];exact List.getElem_mem h0
    rw[(hq _ hm).1,aA8 hh];cases hb:(aV l.hs (l.qs.getD 0 Hold.zero).t||decide (l.hs.length<20))
    .rfl
    .rw[hb,Bool.true_and]at hh1;rw[Bool.true_and];rw[<-Bool.not_eq_true]at hh1⊢;refine fun hx=>hh1 (aA1.2 fun y hy=>?_);rw[aA1]at hx;by_cases e:y.t=h.t
     .rcases hx h ((putH_mem g.h2).2 (.inl rfl))with e2|e2
      .exact absurd e2.symm (mL.1 hw _ hm)
      .refine .inr (cN3 ?_ e2);rw[<-e,rR g.h2 hy]at hcv;exact hcv
     .exact hx y ((putH_mem g.h2).2 (.inr ⟨hy,e⟩))
  .simp only[he];rfl
theorem lV:aZ l=A'↔∀x∈l,lU x=A':=by simp[aZ]
theorem cM5(hh:aV hs h.t=F')(qs:List Hold):cY hs (qs++[h])=cY hs qs:=by
 induction qs with
 |nil=>simp[cY,hh]
 |cons q qs ih=>rw[List.cons_append];unfold cY;rw[ih]
theorem aU8(qs:List Hold)(h:Hold){i:Nat}(hi:i<qs.length):(qs++[h]).getD i Hold.zero=qs.getD i Hold.zero:=by rw[List.getD_eq_getElem?_getD,List.getD_eq_getElem?_getD,List.getElem?_append_left hi]
theorem cN6(qs:List Hold)(h:Hold):(qs++[h]).getD qs.length Hold.zero=h:=by rw[List.getD_eq_getElem?_getD,List.getElem?_append_right z'];simp
theorem Gd.last{l:Lock}(g:Gd l)(hn:lU h=A')(hh:aV l.hs h.t=F')(hw:aV l.qs h.t=F')(hl:l.qs.length<20)(hf:eJ l.hs h.t h.m=F'\/0<l.qs.length):Gd ⟨l.r,l.hs,l.qs++[h]⟩:=by
 refine⟨g.hl,by simp;omega,g.hn,?_,g.h2,?_,g.fit,?_,?_⟩
 .rw[lV];intro x hx;rcases List.mem_append.1 hx with hx|hx
  .exact lV.1 g.qn x hx
  .rw[List.mem_singleton.1 hx];exact hn
 .have:=pX g.q2 h;rw[pF hw]at this;exact this
 .refine xB fun i hi=>?_;simp only[List.length_append,List.length_singleton]at hi;by_cases hlt:i<l.qs.length
  .have:=lZ.1 g.ord i hlt;unfold lY at this⊢;rw[aU8 _ _ hlt,cM5 hh];exact this
  .obtain rfl:i=l.qs.length:=by omega
   exact xC (by rw[cN6];exact hh)
 .rw[jT (by simp)];rcases Nat.eq_zero_or_pos l.qs.length with h0|h0
  .have e:l.qs=[]:=List.length_eq_zero_iff.1 h0;rcases hf with hf|hf
   .simp only[e,List.nil_append,List.getD_cons_zero];rw[hf,Bool.and_false]
   .omega
  .have:=g.head;rw[jT h0]at this;simp only;rw[aU8 _ _ h0];exact this
theorem rM(qs:List Hold)(h:Hold)(k i:Nat)(hk:k<=qs.length):(qs.take k++[h]++qs.drop k).getD i Hold.zero=if i<k then qs.getD i Hold.zero else if i=k then h else qs.getD (i-1) Hold.zero:=by
 simp only[List.getD_eq_getElem?_getD];have hlen:(qs.take k).length=k:=by simp;omega
 split
 .next h1=>rw[List.append_assoc,List.getElem?_append_left (by omega),List.getElem?_take_of_lt h1]
 .next h1=>
  split
  .next h2=>subst h2;rw[List.append_assoc,List.getElem?_append_right (by omega),hlen];simp
  .next h2=>rw[List.getElem?_append_right (by simp;omega)];simp only[List.length_append,hlen,List.length_singleton,List.getElem?_drop];congr 2;omega
theorem Gd.behind{l:Lock}(g:Gd l)(hn:lU h=A')(hh:aV l.hs h.t=A')(hw:aV l.qs h.t=F')(hl:l.qs.length<20)(hf:eJ l.hs h.t h.m=F')(hm:h.m≠bQ l.hs h.t)(hc:eB h.m (bQ l.hs h.t)=A'):
  Gd ⟨l.r,l.hs,l.qs.take (cY l.hs l.qs)++[h]++l.qs.drop (cY l.hs l.qs)⟩:=by
 have hle:=uJ l.hs l.qs;have hlen:(l.qs.take (cY l.hs l.qs)++[h]++l.qs.drop (cY l.hs l.qs)).length=l.qs.length+1:=by simp;omega
 have hcv:cY l.hs (l.qs.take (cY l.hs l.qs)++[h]++l.qs.drop (cY l.hs l.qs))=cY l.hs l.qs+1:=by
  refine xY (by omega) (fun j hj=>?_) (fun hj=>?_)
  .rw[rM _ _ _ _ hle];split
   .next h1=>exact sK _ _ h1
   .rw[if_pos (by omega)];exact hh
  .rw[rM _ _ _ _ hle,if_neg (by omega),if_neg (by omega),Nat.add_sub_cancel];exact aY9 _ _ (by omega)
 refine⟨g.hl,by simp only[hlen];omega,g.hn,?_,g.h2,?_,g.fit,?_,?_⟩
 .rw[lV];intro x hx;simp only[List.mem_append,List.mem_singleton]at hx;rcases hx with(hx|hx)|hx
  .exact lV.1 g.qn x (List.mem_of_mem_take hx)
  .rw[hx];exact hn
  .exact lV.1 g.qn x (List.mem_of_mem_drop hx)
 .have h2:=g.q2;simp only;rw[qD]at h2⊢;rw[List.append_assoc,List.singleton_append,List.map_append,List.map_cons];rw[List.perm_middle.nodup_iff,<-List.map_append,List.take_append_drop,List.nodup_cons];refine⟨fun hx=>?_,h2⟩;obtain⟨x,hx,e⟩:=List.mem_map.1 hx;exact mL.1 hw x hx e
 .refine xB fun i hi=>?_;simp only at hi⊢;rw[hlen]at hi;by_cases h1:i<cY l.hs l.qs
  .have:=lZ.1 g.ord i (by omega);unfold lY at this⊢;rw[sK _ _ h1,if_pos rfl,Bool.and_eq_true]at this;rw[rM _ _ _ _ hle,if_pos h1,sK _ _ h1,if_pos rfl,hcv,decide_eq_true (show i<cY l.hs l.qs+1 by omega),Bool.true_and];exact this.2
  .by_cases h2:i=cY l.hs l.qs
   .have e:(l.qs.take (cY l.hs l.qs)++[h]++l.qs.drop (cY l.hs l.qs)).getD i Hold.zero=h:=by rw[rM _ _ _ _ hle,if_neg h1,if_pos h2]
    exact aE4 (by rw[hcv];omega) (by rw[e];exact hm) (by rw[e];exact hc)
   .refine xC ?_;rw[rM _ _ _ _ hle,if_neg h1,if_neg h2];cases hx:aV l.hs (l.qs.getD (i-1) Hold.zero).t
    .rfl
    .have:=lZ.1 g.ord (i-1) (by omega);rw[vV hx (by omega)]at this;cases this
 .rw[jT (by simp only[hlen];omega)];simp only;rw[rM _ _ _ _ hle];by_cases h0:0<cY l.hs l.qs
  .rw[if_pos h0];have:=g.head;rw[jT (by omega)]at this;exact this
  .rw[if_neg h0,if_pos (by omega),hf,Bool.and_false]
end Ch
theorem OwnV.base{B':Nat}{ls:List (List Row)}(h:OwnV w B v n vs ls)(hb:B'<=B):OwnV w B' v n vs ls:=by obtain⟨hl,ho,hi,hd,hd'⟩:=h;refine⟨hl,aP ho hb,fun i hlt=>?_,hd,hd'⟩;obtain⟨x,h1,h2⟩:=hi i hlt;exact⟨x,h1,aP h2 hb⟩
theorem OwnV.store{ls:List (List Row)}(h:OwnV w B v n vs ls){p o:Nat}(hv:∀g,v.ownBlock=Y g->g≠p)(hx:∀(i:Nat) (x:Value) (g:Nat),vs[i]? =Y x->x.ownBlock=Y g->g≠p):OwnV (w.setCell ⟨p,o,O⟩ u) B v n vs ls:=by obtain⟨hl,ho,hi,hd,hd'⟩:=h;refine⟨hl,oA ho hv u,fun i hlt=>?_,hd,hd'⟩;obtain⟨x,h1,h2⟩:=hi i hlt;exact⟨x,h1,oA h2 (fun g hg=>hx i x g h1 hg) u⟩
def wV(lo hi:Int)(r:Row):Bool:=inB r.k lo hi&&!r.g
def oH(lo hi:Int)(rs:List Row):List Row:=rs.filter (wV lo hi)
theorem bQ2(h:k<rs.length)(hin:wV lo hi (rs.getD k Row.zero)=A'):oH lo hi (rs.take (k+1))=oH lo hi (rs.take k)++[rs.getD k Row.zero]:=by rw[bT rs Row.zero k h];generalize rs.getD k Row.zero=r at*;unfold oH;rw[List.filter_append];simp[hin]
theorem cB6(h:k<rs.length)(hin:wV lo hi (rs.getD k Row.zero)=F'):oH lo hi (rs.take (k+1))=oH lo hi (rs.take k):=by rw[bT rs Row.zero k h];generalize rs.getD k Row.zero=r at*;unfold oH;rw[List.filter_append];simp[hin]
theorem lK{r:Row}{H:Nat}(hH:H=w.heap.size):CellsAt (w.alloc (M #[I J r.k,I J r.v,X r.g] t)) (Y ⟨H,0,O⟩) (1*3) (rcells [r]):=by subst hH;refine⟨rfl,fun _=>⟨_,_,rfl,fun i hi=>?_⟩⟩;rw[Nat.zero_add];have:=cell_of_row (w.alloc (M #[I J r.k,I J r.v,X r.g] t)) _ i _ _ _ (heap_alloc_new w _);rw[this];simp[rcells]
theorem qU{o:Oper}{a:Act}(s x:Operand)
  (B:Nat) (v:Value) (n:Nat) (rs:List Row) (m:Nat) (zs:List Row) (hm:n+m<=2097152) (hm0:0<m)
  (ho:o.op= .call {callee:=.builtin .append,args:=#[s,x],argTypes:=#[24,24]}) (hgd:o.guard=O)
  (hs:a.eval s=v) (hx:∃ad c,a.eval x=Z (Y ad) m c/\CellsAt w (Y ad) (m*3) (rcells zs))
  (hown:w.ownsRow B 86 3 v n (rcells rs)) (hbase:B<=w.heap.size)
  (hK:∀a' c' w',w'.ownsRow B 86 3 (Z a' (n+m) c') (n+m) (rcells (rs++zs))->w.grownBy w' v.ownBlock->(∀g,(Z a' (n+m) c').ownBlock=Y g->v.ownBlock=Y g\/w.heap.size<=g)->wpList prog ops Q rest (a.put o.dst (Z a' (n+m) c')) w'):
  wpList prog ops Q (o::rest) a w:=by
 obtain⟨ad,c,hx,hc⟩:=hx;obtain⟨i0,hi,hz0,hz1,hz2⟩:=info_parts Tryz.info86;refine wpList_append_lies w hgd s x 24 ho B 86 i0 _ 3 24 underlying24 hi hz0 hz1 hz2 rfl (by omega) v n (rcells rs) hs hown ad m c (rcells zs) hx hc.1 ?_ (aN9 zs) hm0 (by unfold maxLen;omega) (by omega) hbase _ rfl ?_
 .intro j u hj;have hjl:j<(rcells zs).length:=(List.getElem?_eq_some_iff.1 hj).1;have hl:=hc.1;obtain⟨b,off,ha,hcc⟩:=hc.2 (by omega);simp only[Option.some.injEq]at ha;subst ha;have e:(⟨b,off,O⟩:Addr).add j=⟨b,off+j,O⟩:=by
   unfold Addr.add;split
   .next h0=>subst h0;rfl
   .rfl
  rw[e,hcc j (by omega),hj]
 .intro g cp' w' hown' hgrow hat hlt;rw[<-nW]at hown';refine hK _ _ w' hown' hgrow fun g' hg'=>?_;simp[Value.ownBlock]at hg';subst hg';rcases hat with hat|hat
  .exact .inl hat
  .exact .inr (by omega)
theorem bD9(a:Option Addr)(n cap:Nat)(lo hi:Int)(ls:List (List Row))(w:World)(h:LvAt w a n ls)(hs:aW ls<=1048576)(hg:∀k,k<n->(ls.getD k []).length≠0):
  Calls prog 209 #[Z a n cap,I J lo,I J hi] w fun e w'=>∃a' m c',e=R' (Z a' m c')/\m<=1048576/\w'.ownsRow w.heap.size 86 3 (Z a' m c') m (rcells (oH lo hi ls.flatten))/\Below w.heap.size w w':=by
 have HL:=h.len;have hfl:=nU hs ls.length;rw[List.take_length]at hfl;have o0:=jV w w.heap.size z';have b0:=f' w (M #[] 86);go_enter func209,ntmps209
 go_wp2_with fail
 refine(tE a n cap ls _ (h.below b0) hs hg).mono ?_;rintro e w1⟨a1,c1,rfl,own1,b1⟩;have o1:=aF o0 b1;have b1':=b0.trans (b1.mono b0.size);have z1:=b1.size;simp at z1;have L1:∀b off,a1=Y ⟨b,off,O⟩->w.heap.size<b/\b<w1.heap.size:=by
  intro b off hb;subst hb;rcases own1.2 with⟨hv,_⟩|⟨g,cp,cur,hv,_⟩
  .simp at hv
  .have:=aG own1 g (by rw[hv];rfl);simp only[Value.slice.injEq,Option.some.injEq,Addr.mk.injEq]at hv;obtain⟨⟨rfl,_⟩,_⟩:=hv;simp at this;omega
 have C1:=aJ own1;have HN:=C1.rlen;generalize hF:ls.flatten=F at*;generalize hnf:F.length=nf at*;go_wp2;go_loopw [7,9] (fun q i wr=>∃(k m:Nat) (a':Option Addr) (c':Nat),k<=nf/\m<=k/\i=I J k/\q=Z a' m c'/\wr.ownsRow w.heap.size 86 3 (Z a' m c') m (rcells (oH lo hi (F.take k)))/\Hid (∀g,(Z a' m c').ownBlock=Y g->g=w.heap.size\/w1.heap.size<=g)/\CellsAt wr a1 (nf*3) (rcells F)/\w1.heap.size<=wr.heap.size/\Below w.heap.size w wr) (fun _ i _=>nf-(intOf i).toNat)
 case atStart=>exact⟨0,0,_,_,Nat.zero_le _,z',rfl,rfl,by simpa[oH]using o1,(fun g hg=>by simp[Value.ownBlock]at hg;exact .inl hg.symm),C1,z',b1'⟩
 case round=>
  obtain⟨k,m,a',c',hk,hmk,rfl,rfl,own,HO,C,hsz,hB⟩:=hrel;by_cases hlt:k<nf
  .obtain⟨b,off,rfl,hc0,hc1,hc2⟩:=C.row hlt;have hLb:=L1 b off rfl;have HY:=hid (fun hin=>bQ2 (lo:=lo) (hi:=hi) (rs:=F) (k:=k) (by omega) hin);have HNo:=hid (fun hin=>cB6 (lo:=lo) (hi:=hi) (rs:=F) (k:=k) (by omega) hin);generalize F.getD k Row.zero=r at*;have hsum:m+1<=2097152:=by omega
   generalize oH lo hi (F.take k)=S at*;obtain⟨rk,rv,rg⟩:=r;simp only[wV]at hc0 hc1 hc2 HY HNo;cases hin:inB rk lo hi
   .go_wp2_with fail
    refine(cU rk lo hi _).mono ?_;rintro e w2⟨rfl,rfl⟩;rw[hin];go_wp2;go_roundw;case rel=>exact⟨k+1,m,a',c',by omega,by omega,by go_num,rfl,by rw[HNo.out (by simp[hin])];exact own,HO,C,hsz,hB⟩
    case measure=>simp[intOf];omega
   .cases rg
    .go_wp2_with fail
     refine(cU rk lo hi _).mono ?_;rintro e w2⟨rfl,rfl⟩;rw[hin];have bA:∀o,Below w2.heap.size w2 (w2.alloc o):=fun o=>q';go_wp2_with(at_builtin;go_must (refine qU (.tmp 35) (.tmp 40) w.heap.size (Z a' m c') m S 1 [⟨rk,rv,F'⟩] hsum (by omega) ?_ ?_ ?_ ?_ ?_ ?_ ?_;exact rfl;exact rfl;exact rfl;exact⟨_,_,rfl,lK (r:=⟨rk,rv,F'⟩) rfl⟩;exact aF own (bA _);(focus(simp;omega));intro a3 c3 w3 own3 gr3 at3))
     go_roundw;case rel=>
      refine⟨k+1,m+1,a3,c3,by omega,by omega,by go_num,rfl,by rw[HY.out (by simp[hin])];exact own3,?_,?_,?_,?_⟩
      .intro g hg;rcases at3 g hg with h1|h1
       .exact HO.out g h1
       .right;simp at h1;omega
      .refine gG (C.below (bA _)) gr3 ?_;intro b' off' hb' hrow;simp only[Option.some.injEq,Addr.mk.injEq,and_true]at hb';obtain⟨rfl,rfl⟩:=hb';rcases HO.out _ hrow with h1|h1<;>omega
      .have:=gr3.size;simp at this;omega
      .refine(hB.alloc hB.size _).grown gr3 (by simp;omega) ?_;intro k' hk';rcases HO.out _ hk' with h1|h1<;>omega
     case measure=>simp[intOf];omega
    .go_wp2_with fail
     refine(cU rk lo hi _).mono ?_;rintro e w2⟨rfl,rfl⟩;rw[hin];go_wp2;go_roundw;case rel=>exact⟨k+1,m,a',c',by omega,by omega,by go_num,rfl,by rw[HNo.out (by simp[hin])];exact own,HO,C,hsz,hB⟩
     case measure=>simp[intOf];omega
  .obtain rfl:k=nf:=by omega
   go_wp2;go_ret;rw[List.take_of_length_le (by omega)]at own;exact⟨a',m,c',rfl,by omega,by rw[hF];exact own,hB⟩
section
open Go.Maps
theorem aQ9(F:List Row)(key:Int)(k:Nat)(hk:k<F.length)(hne:∀j,j<k->(F.getD j Row.zero).k≠key)(he:(F.getD k Row.zero).k=key):F.find? (fun r=>r.k==key)=Y (F.getD k Row.zero):=by
 induction F generalizing k with
 |nil=>simp at hk
 |cons q F ih=>
  cases k with
  |zero=>simp at he;simp[he]
  |succ k=>have h0:=hne 0 (by omega);simp at h0;rw[List.find?_cons_of_neg (by simpa using h0)];have:=ih k (by simpa using hk) (fun j hj=>by have:=hne (j+1) (by omega);simpa using this) (by simpa using he);simpa using this
theorem aF9(F:List Row)(key:Int)(hne:∀j,j<F.length->(F.getD j Row.zero).k≠key):F.find? (fun r=>r.k==key)=O:=by rw[List.find?_eq_none];intro r hr;obtain⟨j,hj,rfl⟩:=List.getElem_of_mem hr;have:=hne j hj;rw[lB _ _ _ hj]at this;simpa using this
def cT2(ls:List (List Row))(key:Int)(r:Row)(ok:Bool):Prop:=(ok=A'/\iH ls key=Y r)\/(ok=F'/\iH ls key=O)
def cT3(ls:List (List Row))(key:Int)(w:World)(e:Ending)(w':World):Prop:=
 ∃r ok,e=R' (.tuple #[U #[I J r.k,I J r.v,X r.g],X ok])/\cT2 ls key r ok/\Below w.heap.size w w'
theorem box3{c0 c1 c2:Value}(b:Below (w.alloc (M #[c0,c1,c2] t)).heap.size (w.alloc (M #[c0,c1,c2] t)) w1):
  w1.cell? ⟨w.heap.size,0,O⟩=Y c0/\w1.cell? ⟨w.heap.size,1,O⟩=Y c1/\w1.cell? ⟨w.heap.size,2,O⟩=Y c2:=⟨cV b 0,cV b 1,cV b 2⟩
theorem tC(a:Option Addr)(n cap:Nat)(key:Int)(ls:List (List Row))(w:World)(h:LvAt w a n ls)(hs:aW ls<=1048576)(hg:∀k,k<n->(ls.getD k []).length≠0):
  Calls prog 212 #[Z a n cap,I J key] w (cT3 ls key w):=by
 have HL:=h.len;have hfl:=nU hs ls.length;rw[List.take_length]at hfl;have b0:=f' w (M #[I J 0,I J 0,X F'] 86);go_enter func212,ntmps212
 go_wp2_with fail
 refine(tE a n cap ls _ (h.below b0) hs hg).mono ?_;rintro e w1⟨a1,c1,rfl,own1,b1⟩;obtain⟨x0,x1,x2⟩:=box3 b1;have f0:=aI7 b1 0;have f1:=aI7 b1 1;have f2:=aI7 b1 2;have hz:=aD x0;have b1':=b0.trans (b1.mono b0.size);have C1:=aJ own1;have HD:Hid (∀F,F=ls.flatten->iH ls key=F.find? (fun r=>r.k==key)):=fun F hF=>by rw[hF];rfl
 generalize hF:ls.flatten=F at*;replace HD:=hid (HD.out F rfl);clear hF;generalize hnf:F.length=nf at*;go_wp2;go_loop [7] (fun i=>∃k:Nat,k<=nf/\i=I J k/\Hid (∀j,j<k->(F.getD j Row.zero).k≠key)) (fun i=>nf-(intOf i).toNat)
 case atStart=>exact⟨0,Nat.zero_le _,rfl,fun j hj=>absurd hj (by omega)⟩
 case round=>
  obtain⟨k,hk,rfl,HP⟩:=hrel;by_cases hlt:k<nf
  .obtain⟨b,off,rfl,hc0,hc1,hc2⟩:=C1.row hlt;have HY:=hid (fun he=>aQ9 F key k (by omega) HP.out he);have HP':Hid (¬(F.getD k Row.zero).k=key->∀j,j<k+1->(F.getD j Row.zero).k≠key):=by
    intro h0 j hj;by_cases hjk:j=k
    .rw[hjk];exact h0
    .exact HP.out j (by omega)
   generalize F.getD k Row.zero=r at*;obtain⟨rk,rv,rg⟩:=r;simp only at hc0 hc1 hc2 HY HP';by_cases he:rk=key
   .have hq:(rk==key)=A':=by simpa using he
    have HYe:=hid (HY.out he);clear he HY HP';go_wp2;exact bodyPost_ret (v:=.tuple #[U #[I J rk,I J rv,X rg],X A']) (by simp[results,Tryz.results212,go_sem,x0,x1,x2]) rfl ⟨⟨rk,rv,rg⟩,A',rfl,.inl ⟨rfl,HD.out.trans HYe.out⟩,((b1'.setCell (p:=⟨w.heap.size,0,O⟩) z' _).setCell (p:=⟨w.heap.size,1,O⟩) z' _).setCell (p:=⟨w.heap.size,2,O⟩) z' _⟩
   .have hq:(rk==key)=F':=by simpa using he
    go_wp2;go_round
    case rel=>exact⟨k+1,by omega,by go_num,HP'.out he⟩
    case measure=>simp[intOf];omega
  .obtain rfl:k=nf:=by omega
   go_wp2;exact bodyPost_ret (v:=.tuple #[U #[I J 0,I J 0,X F'],X F']) (by simp[results,Tryz.results212,go_sem,x0,x1,x2]) rfl ⟨⟨0,0,F'⟩,F',rfl,.inr ⟨rfl,HD.out.trans (aF9 F key (fun j hj=>HP.out j (by omega)))⟩,((b1'.setCell (p:=⟨w.heap.size,0,O⟩) z' _).setCell (p:=⟨w.heap.size,1,O⟩) z' _).setCell (p:=⟨w.heap.size,2,O⟩) z' _⟩
end
theorem bO9(l:List Row)(i:Nat):(rcells l).take (i*3)=rcells (l.take i):=by
 by_cases h:i<=l.length
 .conv=>lhs;rw[<-List.take_append_drop i l,nW]
  exact List.take_left' (by rw[fW];simp;omega)
 .rw[List.take_of_length_le (by rw[fW];omega),List.take_of_length_le (by omega)]
theorem bO6(l:List Row)(i:Nat):(rcells l).drop (i*3)=rcells (l.drop i):=by
 by_cases h:i<=l.length
 .conv=>lhs;rw[<-List.take_append_drop i l,nW]
  exact List.drop_left' (by rw[fW];simp;omega)
 .rw[List.drop_of_length_le (by rw[fW];omega),List.drop_of_length_le (by omega)];rfl
theorem bC3{m:Nat}(h:w.ownsRow B 86 3 v m (rcells F)):Hid (m=F.length):=by have h1:=h.1;rw[fW]at h1;show _=_;omega
theorem aP1(a:Option Addr)(n cap:Nat)(ls:List (List Row))(w:World)(h:LvAt w a n ls)(hs:aW ls<=1048576)(hg:∀k,k<n->(ls.getD k []).length≠0)(m:Nat)(hm:Hid (ls.flatten.length=m)):
  Calls prog 197 #[Z a n cap] w fun e w'=>∃a' c',e=R' (Z a' m c')/\w'.ownsRow w.heap.size 86 3 (Z a' m c') m (rcells ls.flatten)/\Below w.heap.size w w':=by
 have hm:=hm.out;subst hm;exact tE a n cap ls w h hs hg
def icells(zs:List Int):List Value:=zs.map (I J)
theorem pQ(zs:List Int):(icells zs).length=zs.length:=by simp[icells]
theorem eI(a b:List Int):icells (a++b)=icells a++icells b:=by simp[icells]
theorem dN(zs:List Int):∀u∈icells zs,u.oneCell'=A':=by intro x hx;simp only[icells,List.mem_map]at hx;obtain⟨r,_,rfl⟩:=hx;rfl
theorem Tryz.info2:(prog.info? 2).map (fun i=>(i.zero,i.size,i.bytes))=Y (Y (I J 0),1,8):=by kernel_rfl
theorem CellsAt.ilen(h:CellsAt w a (n*1) (icells zs)):Hid (n=zs.length):=by have:=h.1;rw[pQ]at this;exact(by omega:n=zs.length)
theorem CellsAt.int(h:CellsAt w a (n*1) (icells zs))(hk:k<n):
  ∃b off,a=Y ⟨b,off,O⟩/\w.cell? ⟨b,off+k,O⟩=Y (I J (zs.getD k 0)):=by
 obtain⟨b,off,ha,hc⟩:=h.2 (by omega);have hl:=h.ilen.out;refine⟨b,off,ha,(hc k (by omega)).trans ?_⟩;simp[icells,List.getD,show k<zs.length by omega]
theorem sP(zs:List Int)(k:Nat)(v:Int):(icells zs).set k (I J v)=icells (zs.set k v):=by simp[icells,List.map_set]
theorem aV7(v:Int)(w:World):
  Calls prog 64 #[I J v] w fun e w'=>e=R' (X (inB v 1 999))/\w'=w:=by
 go_enter func64,ntmps64
 go_wp2_with(go_at_call 101;refine(cU _ _ _ _).mono ?_;rintro e w'⟨rfl,rfl⟩)
 go_ret;exact⟨rfl,rfl⟩
theorem aA4(v:Int)(w:World):
  Calls prog 55 #[I J v] w fun e w'=>e=R' (X (inB v 1 999))/\w'=w:=by
 unfold inB;by_cases h1:1<=v;all_goals by_cases h2:v<=999
 all_goals
  go_enter func55,ntmps55
  go_wp2;go_ret;exact⟨by simp[h1,h2],rfl⟩
theorem lM(v:Int)(w:World):
  Calls prog 112 #[I J v] w fun e w'=>e=R' (X (eU v))/\w'=w:=by
 unfold eU;cases h1:(v==2);all_goals
  go_enter func112,ntmps112
  go_wp2;go_ret;exact⟨by simp,rfl⟩
theorem nS(v:Int)(w:World):
  Calls prog 82 #[I J v] w fun e w'=>e=R' (X (eU v))/\w'=w:=by
 unfold eU;cases h1:(v==2);all_goals
  go_enter func82,ntmps82
  go_wp2;go_ret;exact⟨by simp,rfl⟩
theorem jZ(kd tx ky:Int)(hd:Bool)(ol:Int)(hs:Bool)(nw:Int)(w:World):
  Calls prog 113 #[U #[I J kd,I J tx,I J ky,X hd,I J ol,X hs,I J nw]] w fun e w'=>e=R' (I J (Rec.fault ⟨kd,tx,ky,hd,ol,hs,nw⟩))/\Below w.heap.size w w':=by
 unfold Rec.fault;dsimp only;cases h1:inB kd 1 5;case' true=>cases h2:inB tx 1 999
 case' true.true=>cases h3:eU kd
 case' true.true.true=>cases h4:inB ky 0 99
 case' true.true.true.true=>cases h5:inB ol 0 9999
 case' true.true.true.true.true=>cases h6:inB nw 0 9999
 case' true.true.false=>cases h4:(ky !=0)
 case' true.true.false.false=>cases hd
 case' true.true.false.false.false=>cases hs
 case' true.true.false.false.false.false=>cases h5:(ol !=0)
 case' true.true.false.false.false.false.false=>cases h6:(nw !=0)
 case' true.true.true.true.true.true=>(cases hd<;>cases hs<;>cases h7:(ol !=0)<;>cases h8:(nw !=0))
 all_goals
  go_enter func113,ntmps113
  go_wp2_with(first|(go_at_call 101;refine(cU _ _ _ _).mono ?_;rintro e w'⟨rfl,rfl⟩)|(go_at_call 64;refine(aV7 _ _).mono ?_;rintro e w'⟨rfl,rfl⟩)|(go_at_call 112;refine(lM _ _).mono ?_;rintro e w'⟨rfl,rfl⟩)|(go_at_call 124;refine(cQ _ _).mono ?_;rintro e w'⟨rfl,rfl⟩)|(go_at_call 125;refine(bM _ _).mono ?_;rintro e w'⟨rfl,rfl⟩))
  go_ret;exact⟨by simp[*],q'⟩
def Ch.chg(ky:Int)(hd:Bool)(ol:Int)(hs:Bool)(nw:Int):Int:=
 if !inB ky 0 99||!inB ol 0 9999||!inB nw 0 9999 then 3 else if !hd&&ol !=0||!hs&&nw !=0 then 1 else 0
theorem bV7(kd tx ky:Int)(hd:Bool)(ol:Int)(hs:Bool)(nw:Int)(w:World):
  Calls prog 121 #[U #[I J kd,I J tx,I J ky,X hd,I J ol,X hs,I J nw]] w fun e w'=>e=R' (I J (chg ky hd ol hs nw))/\Below w.heap.size w w':=by
 unfold chg;cases h4:inB ky 0 99;case' true=>cases h5:inB ol 0 9999
 case' true.true=>cases h6:inB nw 0 9999
 case' true.true.true=>(cases hd<;>cases hs<;>cases h7:(ol !=0)<;>cases h8:(nw !=0))
 all_goals
  go_enter func121,ntmps121
  go_wp2_with(first|(go_at_call 60;refine(aV5 _ _).mono ?_;rintro e w'⟨rfl,rfl⟩)|(go_at_call 122;refine(aD0 _ _).mono ?_;rintro e w'⟨rfl,rfl⟩))
  go_ret;exact⟨by simp,q'⟩
theorem cV3(kd tx ky:Int)(hd:Bool)(ol:Int)(hs:Bool)(nw kd' tx' ky':Int)(hd':Bool)(ol':Int)(hs':Bool)(nw':Int)(w:World):
  (Op.equalIn 10000 79 (U #[I J kd,I J tx,I J ky,X hd,I J ol,X hs,I J nw]) (U #[I J kd',I J tx',I J ky',X hd',I J ol',X hs',I J nw'])).run prog w
   = .ok (kd==kd'&&tx==tx'&&ky==ky'&&hd==hd'&&ol==ol'&&hs==hs'&&nw==nw') w:=by
 have hS:prog.underlying 79=Y (.struct (prog.fieldsOf 79)):=by kernel_rfl
 have hp:prog.stoodInHeld 79=F':=by kernel_rfl
 have u2:=underlying2;have a2:=isAgg2;have z2:=sizeOf2;have u4:=underlying4;have a4:=isAgg4;have z4:=sizeOf4;rw[show(10000:Nat)=9999+1 from rfl,run_equalIn_agg w 9999 79 _ _ hS hp];simp only[Program.fieldsOf,underlying79];go_simp;cases hd<;>cases hd'<;>cases hs<;>cases hs'<;>by_cases h1:kd=kd'<;>by_cases h2:tx=tx'<;>by_cases h3:ky=ky'<;>by_cases h4:ol=ol'<;>by_cases h5:nw=nw'<;>simp[h1,h2,h3,h4,h5]
theorem dG7(kd tx ky:Int)(hd:Bool)(ol:Int)(hs:Bool)(nw kd' tx' ky':Int)(hd':Bool)(ol':Int)(hs':Bool)(nw':Int)(w:World):
  (binOp .neq 79 (U #[I J kd,I J tx,I J ky,X hd,I J ol,X hs,I J nw]) (U #[I J kd',I J tx',I J ky',X hd',I J ol',X hs',I J nw'])).run prog w
   = .ok (X (!(kd==kd'&&tx==tx'&&ky==ky'&&hd==hd'&&ol==ol'&&hs==hs'&&nw==nw'))) w:=by
 rw[run_neq_struct,cV3];rfl
def LkOne(w:World)(b off:Nat)(ah:Option Addr)(nh ch:Nat)(aq:Option Addr)(nq cq:Nat)(l:Lock):Prop:=
 w.cell? ⟨b,off,O⟩=Y (I J l.r)/\w.cell? ⟨b,off+1,O⟩=Y (Z ah nh ch)/\w.cell? ⟨b,off+2,O⟩=Y (Z aq nq cq)/\
  CellsAt w ah (nh*2) (hcells l.hs)/\CellsAt w aq (nq*2) (hcells l.qs)/\nh<=9223372036854775807/\nq<=9223372036854775807/\nh<=ch/\nq<=cq
theorem LkOne.below{b off:Nat}{nh ch:Nat}{nq cq:Nat}{l:Lock}(h:LkOne w b off ah nh ch aq nq cq l)(hb:Below w.heap.size w w'):LkOne w' b off ah nh ch aq nq cq l:=by obtain⟨h0,h1,h2,h3,h4,h5⟩:=h;exact⟨aC hb h0,aC hb h1,aC hb h2,h3.below hb,h4.below hb,h5⟩
def LkAt(w:World)(a:Option Addr)(n:Nat)(ls:List Lock):Prop:=
 ls.length=n/\(0<n->∃b off,a=Y ⟨b,off,O⟩/\∀i,i<n->∃ah nh ch aq nq cq,LkOne w b (off+i*3) ah nh ch aq nq cq (aH ls i))
theorem LkAt.below(h:LkAt w a n ls)(hb:Below w.heap.size w w'):LkAt w' a n ls:=by refine⟨h.1,fun h0=>?_⟩;obtain⟨b,off,ha,hi⟩:=h.2 h0;refine⟨b,off,ha,fun i hlt=>?_⟩;obtain⟨ah,nh,ch,aq,nq,cq,h1⟩:=hi i hlt;exact⟨ah,nh,ch,aq,nq,cq,h1.below hb⟩
theorem LkAt.len(h:LkAt w a n ls):Hid (n=ls.length):=h.1.symm
theorem LkAt.lock(h:LkAt w a n ls)(hk:k<n):
  ∃b off ah nh ch aq nq cq,a=Y ⟨b,off,O⟩/\LkOne w b (off+k*3) ah nh ch aq nq cq (aH ls k):=by
 obtain⟨b,off,ha,hi⟩:=h.2 (by omega);obtain⟨ah,nh,ch,aq,nq,cq,h1⟩:=hi k hk;exact⟨b,off,ah,nh,ch,aq,nq,cq,ha,h1⟩
def mM(ls:List Lock):Nat:=(ls.map fun l=>l.hs.length+l.qs.length).sum
def dC(ls:List Lock):Nat:=ls.length+mM ls
theorem bZ6(ls:List Lock)(k:Nat)(h:k<ls.length):mM (ls.take (k+1))=mM (ls.take k)+((aH ls k).hs.length+(aH ls k).qs.length):=by unfold mM aH;rw[bT ls Lock.zero k h];simp
theorem cX6(ls:List Lock)(k:Nat):mM (ls.take k)<=mM ls:=by
 unfold mM;induction ls generalizing k with
 |nil=>simp
 |cons l ls ih=>
  cases k with
  |zero=>simp
  |succ k=>have:=ih k;simp only[List.take_succ_cons,List.map_cons,List.sum_cons];omega
theorem iM{N:Nat}(h:dC ls<=N)(i:Nat):(aH ls i).hs.length<=N/\(aH ls i).qs.length<=N:=by
 by_cases hi:i<ls.length
 .have h1:=bZ6 ls i hi;have h2:=cX6 ls (i+1);unfold dC at h;omega
 .simp[aH,List.getD,List.getElem?_eq_none (show ls.length<=i by omega),Lock.zero]
theorem Tryz.info227:(prog.info? 227).map (fun i=>(i.zero,i.size,i.bytes))=Y (Y (U #[I J 0,Z O 0 0,Z O 0 0]),3,56):=by kernel_rfl
theorem aQ2{c0 c1 c2 c3 c4 c5 c6:Value}(b:Below (w.alloc (M #[c0,c1,c2,c3,c4,c5,c6] t)).heap.size (w.alloc (M #[c0,c1,c2,c3,c4,c5,c6] t)) w1):
  w1.cell? ⟨w.heap.size,0,O⟩=Y c0/\w1.cell? ⟨w.heap.size,1,O⟩=Y c1/\w1.cell? ⟨w.heap.size,2,O⟩=Y c2/\w1.cell? ⟨w.heap.size,3,O⟩=Y c3/\w1.cell? ⟨w.heap.size,4,O⟩=Y c4/\w1.cell? ⟨w.heap.size,5,O⟩=Y c5/\w1.cell? ⟨w.heap.size,6,O⟩=Y c6:=
 ⟨cV b 0,cV b 1,cV b 2,cV b 3,cV b 4,cV b 5,cV b 6⟩
end Go.Proofs.YtpbbokalojdooaaGreat
