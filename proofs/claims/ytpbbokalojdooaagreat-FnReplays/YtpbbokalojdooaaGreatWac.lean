import Derived.Test.YtpbbokalojdooaaGreatWab
namespace Go.Proofs.YtpbbokalojdooaaGreat
open Go.RowKit Ch Go.Proofs.Tryz
set_option linter.unusedSimpArgs false
set_option linter.unusedVariables false
set_option maxRecDepth 20000
set_option maxHeartbeats 8000000
open Value renaming int->I,slice->Z,bool->X,agg->U
open IntKind renaming i64->J
open Option renaming none->O,some->Y
open Obj renaming cells->M
open Ending renaming returned->R'
open Bool renaming true->A',false->F'
variable {f:Ac} {held:Bool} {b key t txn:Int} {ls:List (List Row)} {r ts:List Ac} {s:List Int} {l rs:List Row} {base cap k len n:Nat} {spare:Nat->Bool} {a:Option Addr} {p:Option Int} {H α:Type} {w:World}
namespace Ch
structure Hold where
 t:Int
 m:Int
def Hold.zero:Hold:=⟨0,0⟩
structure Lock where
 r:Int
 hs:List Hold
 qs:List Hold
def Lock.zero:Lock:=⟨0,[],[]⟩
theorem uD{l:List α}{p:α->Bool}(d:α)(hk:k<l.length)(h:p (l.getD k d)=F'):l.all p=F':=by
 have hm:l.getD k d∈l:=by simp[List.getD,hk]
 cases hh:l.all p
 .rfl
 .have:=Az.1 hh _ hm;rw[h]at this;cases this
theorem aV5{l:List α}{p:α->Bool}(d:α)(hk:k<l.length)(h:p (l.getD k d)=A'):l.any p=A':=by
 have hm:l.getD k d∈l:=by simp[List.getD,hk]
 exact Ct.2 ⟨_,hm,h⟩
theorem wV{l:List α}{p:α->Bool}(d:α)(hk:k<l.length)(h:(l.take k).all p=A')(h2:p (l.getD k d)=A'):(l.take (k+1)).all p=A':=by rw[bZ l d k hk,List.all_append,h];simp only[List.all_cons,List.all_nil,h2];rfl
theorem cO9{l:List α}{p:α->Bool}(d:α)(hk:k<l.length)(h:(l.take k).any p=F')(h2:p (l.getD k d)=F'):(l.take (k+1)).any p=F':=by rw[bZ l d k hk,List.any_append,h];simp only[List.any_cons,List.any_nil,h2];rfl
theorem dO4{l:List α}{p:α->Bool}(d:α)(h:l.all p=A')(hk:k<l.length):p (l.getD k d)=A':=by
 have hm:l.getD k d∈l:=by simp[List.getD,hk]
 exact Az.1 h _ hm
def aV(l:List Hold)(t:Int):Bool:=l.any fun h=>h.t==t
def atH(l:List Hold)(t:Int):Int:=match l.findIdx? (fun h=>h.t==t)with
 |some i=>i
 |none=> -1
def bT(l:List Hold)(t:Int):Int:=if aV l t then(l.getD (atH l t).toNat Hold.zero).m else 0
theorem aV8{l:List Hold}(h:aV l t=F'):atH l t= -1:=by
 unfold atH;have:l.findIdx? (fun h=>h.t==t)=O:=by rw[List.findIdx?_eq_none_iff];unfold aV at h;rw[Ed]at h;intro x hx;simpa using h x hx
 rw[this]
theorem cP2{l:List Hold}(hk:k<l.length)(h:aV (l.take k) t=F')(he:(l.getD k Hold.zero).t=t):atH l t=k/\aV l t=A':=by
 have h2:aV l t=A':=aV5 Hold.zero hk (by simp only[he];simp);refine⟨?_,h2⟩;unfold atH;have e1:l[k]=l.getD k Hold.zero:=by simp[List.getD,hk]
 have:l.findIdx? (fun h=>h.t==t)=Y k:=by
  rw[List.findIdx?_eq_some_iff_getElem];refine⟨hk,by rw[e1,he];simp,fun j hj=>?_⟩;unfold aV at h;rw[Ed]at h;have hm:l[j]∈l.take k:=by rw[List.mem_take_iff_getElem];exact⟨j,by omega,rfl⟩
  simpa using h _ hm
 rw[this]
theorem eI(l:List Hold)(t:Int):(aV l t=F'/\atH l t= -1/\bT l t=0)\/∃k,k<l.length/\atH l t=(k:Int)/\aV l t=A'/\(l.getD k Hold.zero).t=t/\bT l t=(l.getD k Hold.zero).m:=by
 cases h:aV l t
 .exact .inl ⟨rfl,aV8 h,by unfold bT;rw[h];rfl⟩
 .right;cases hf:l.findIdx? (fun h=>h.t==t)with
  |none=>exfalso;rw[List.findIdx?_eq_none_iff]at hf;unfold aV at h;rw[Ct]at h;obtain⟨x,hx,hxt⟩:=h;have:=hf x hx;simp_all
  |some k=>
   have ha:atH l t=(k:Int):=by unfold atH;rw[hf]
   rw[List.findIdx?_eq_some_iff_getElem]at hf;obtain⟨hk,he,_⟩:=hf;refine⟨k,hk,ha,rfl,by simpa[List.getD,hk]using he,?_⟩;unfold bT;rw[h,ha];simp
def eR(l:List Hold)(t m:Int):Bool:=l.all fun h=>h.t==t||kU h.m m
def mN(h:Hold):Bool:=inB h.t 1 999&&inB h.m 1 5
def bO(l:List Hold):Bool:=l.all mN
def aY8(l:List Hold):Int:=if bO l then 0 else 3
theorem xI{l:List Hold}(h:bO l=A'):aY8 l=0:=by unfold aY8;rw[h];rfl
theorem uG{l:List Hold}(h:bO l=F'):aY8 l=3:=by unfold aY8;rw[h];rfl
def iX(l:List Hold):Bool:=l.all fun h=>eR l h.t h.m
theorem jX{h:Hold}(hn:mN h=A'):isM h.m=A'/\1<=h.m/\h.m<=5/\1<=h.t/\h.t<=999:=by unfold mN inB at hn;unfold isM inB;simp at hn⊢;omega
theorem jT{l:List Hold}(h:bO l=A')(hk:k<l.length):mN (l.getD k Hold.zero)=A':=dO4 Hold.zero h hk
theorem sO{l:List Hold}(h:bO l=A')(t:Int):isM (bT l t)=A'/\(bT l t !=0)=aV l t:=by
 rcases eI l t with⟨h1,h2,h3⟩|⟨k,hk,h1,h2,h3,h4⟩
 .rw[h1,h3];exact⟨rfl,rfl⟩
 .have:=jX (jT h hk);rw[h4,h2];refine⟨this.1,?_⟩;have hne:(l.getD k Hold.zero).m≠0:=by omega
  simpa using hne
def jZ(l:List Hold):Nat->Bool
 |0=>F'
 |k+1=>jZ l k||aV (l.take k) (l.getD k Hold.zero).t
def cS(l:List Hold):Bool:=jZ l l.length
theorem bI0{l:List Hold}{j:Nat}(h:jZ l k=A')(hj:k<=j):jZ l j=A':=by
 induction j with
 |zero=>
  obtain rfl:k=0:=by omega
  exact h
 |succ j ih=>
  by_cases hk:k=j+1
  .subst hk;exact h
  .unfold jZ;rw[ih (by omega)];rfl
theorem aQ7{l:List Hold}(hk:k<l.length)(h:aV (l.take k) (l.getD k Hold.zero).t=A'):cS l=A':=by refine bI0 (k:=k+1) ?_ hk;unfold jZ;rw[h];simp
theorem aR8{l:List Hold}(h1:jZ l k=F')(h:aV (l.take k) (l.getD k Hold.zero).t=F'):jZ l (k+1)=F':=by unfold jZ;rw[h,h1];rfl
theorem bI1(l:List Hold)(k:Nat)(hk:k<=l.length):jZ l k=F'↔(l.take k).Pairwise fun a b=>a.t≠b.t:=by
 induction k with
 |zero=>simp[jZ]
 |succ k ih=>rw[bZ l Hold.zero k (by omega),Fq];unfold jZ;rw[Bool.or_eq_false_iff,ih (by omega)];unfold aV;rw[Ed];simp
theorem gH(l:List Hold):cS l=F'↔l.Pairwise fun a b=>a.t≠b.t:=by have:=bI1 l l.length z';rwa[Be]at this
def dB(hs:List Hold):List Hold->Nat
 |[]=>0
 |q::qs=>if aV hs q.t then dB hs qs+1 else 0
theorem uQ(hs qs:List Hold):dB hs qs<=qs.length:=by
 induction qs with
 |nil=>exact z'
 |cons q qs ih=>unfold dB;split<;>simp<;>omega
theorem tC(hs qs:List Hold)(hk:k<dB hs qs):aV hs (qs.getD k Hold.zero).t=A':=by
 induction qs generalizing k with
 |nil=>simp[dB]at hk
 |cons q qs ih=>
  unfold dB at hk;split at hk
  .cases k with
   |zero=>simpa using ‹_›
   |succ k=>simpa using ih (by omega)
  .omega
theorem bB5(hs qs:List Hold)(hk:dB hs qs<qs.length):aV hs (qs.getD (dB hs qs) Hold.zero).t=F':=by
 induction qs with
 |nil=>simp at hk
 |cons q qs ih=>
  unfold dB at hk⊢;split
  .next h=>rw[if_pos h]at hk;simpa using ih (by simpa using hk)
  .next h=>simpa using h
theorem yO{hs qs:List Hold}(hk:k<=qs.length)(h1:∀j,j<k->aV hs (qs.getD j Hold.zero).t=A')(h2:k<qs.length->aV hs (qs.getD k Hold.zero).t=F'):dB hs qs=k:=by
 rcases En (dB hs qs) k with h|h|h
 .have:=h1 _ h;rw[bB5 hs qs (by omega)]at this;cases this
 .exact h
 .have:=tC hs qs h;have hl:=uQ hs qs;rw[h2 (by omega)]at this;cases this
def mP(hs qs:List Hold)(i:Nat):Bool:=
 if aV hs (qs.getD i Hold.zero).t then decide (i<dB hs qs)&&((qs.getD i Hold.zero).m !=bT hs (qs.getD i Hold.zero).t&&eJ (qs.getD i Hold.zero).m (bT hs (qs.getD i Hold.zero).t))else A'
def qOk(hs qs:List Hold):Bool:=(List.range qs.length).all (mP hs qs)
theorem mQ{p:Nat->Bool}:(List.range n).all p=A'↔∀i,i<n->p i=A':=by rw[Az];simp
theorem uI{hs qs:List Hold}{i:Nat}(hi:i<qs.length)(h:mP hs qs i=F'):qOk hs qs=F':=by
 cases hh:qOk hs qs
 .rfl
 .unfold qOk at hh;rw[mQ]at hh;have:=hh i hi;rw[h]at this;cases this
theorem xL{hs qs:List Hold}(h:∀i,i<qs.length->mP hs qs i=A'):qOk hs qs=A':=mQ.2 h
theorem dA1{hs qs:List Hold}(h:aV hs (qs.getD k Hold.zero).t=F'):dB hs qs<=k:=by
 rcases Cd k (dB hs qs)with h1|h1
 .rw[tC hs qs h1]at h;cases h
 .exact h1
theorem cP6{hs qs:List Hold}(hk:k<qs.length)(h:aV hs (qs.getD k Hold.zero).t=A')(hc:k<=dB hs qs):k<dB hs qs:=by
 rcases Cd k (dB hs qs)with h1|h1
 .exact h1
 .obtain rfl:k=dB hs qs:=by omega
  rw[bB5 hs qs hk]at h;cases h
theorem xM{hs qs:List Hold}(h:aV hs (qs.getD k Hold.zero).t=F'):mP hs qs k=A':=by unfold mP;rw[h];rfl
theorem wF{hs qs:List Hold}(h:aV hs (qs.getD k Hold.zero).t=A')(hc:dB hs qs<=k):mP hs qs k=F':=by unfold mP;rw[h];simp;intro h2;omega
theorem aF0{hs qs:List Hold}(h:aV hs (qs.getD k Hold.zero).t=A')(he:(qs.getD k Hold.zero).m=bT hs (qs.getD k Hold.zero).t):mP hs qs k=F':=by unfold mP;rw[h,<-he];simp
theorem aO5{hs qs:List Hold}(h:aV hs (qs.getD k Hold.zero).t=A')(he:eJ (qs.getD k Hold.zero).m (bT hs (qs.getD k Hold.zero).t)=F'):mP hs qs k=F':=by unfold mP;rw[h,he];simp
theorem aE9{hs qs:List Hold}(hc:k<dB hs qs)(h1:(qs.getD k Hold.zero).m≠bT hs (qs.getD k Hold.zero).t)(he:eJ (qs.getD k Hold.zero).m (bT hs (qs.getD k Hold.zero).t)=A'):mP hs qs k=A':=by
 unfold mP;rw[tC hs qs hc,he];have h2:((qs.getD k Hold.zero).m !=bT hs (qs.getD k Hold.zero).t)=A':=by simpa using h1
 rw[h2];simp[hc]
theorem lM{p:Nat->Bool}(h:∀j,j<k->p j=A')(hk:p k=A'):∀j,j<k+1->p j=A':=by
 intro j hj;by_cases e:j=k
 .subst e;exact hk
 .exact h j (by omega)
theorem qW{p:Nat->Bool}(h:∀j,j<k->p j=F')(hk:p k=F'):∀j,j<k+1->p j=F':=by
 intro j hj;by_cases e:j=k
 .subst e;exact hk
 .exact h j (by omega)
def eL(hs qs:List Hold):Bool:=match qs with
 |[]=>F'
 |q::_=>(aV hs q.t||decide (hs.length<20))&&eR hs q.t q.m
theorem jY{hs qs:List Hold}(h:0<qs.length):eL hs qs=((aV hs (qs.getD 0 Hold.zero).t||decide (hs.length<20))&&eR hs (qs.getD 0 Hold.zero).t (qs.getD 0 Hold.zero).m):=by
 cases qs with
 |nil=>simp at h
 |cons q qs=>rfl
def dL(l:Lock):Int:=
 if 20<l.hs.length\/20<l.qs.length then 2 else
 if !(bO l.hs&&bO l.qs)then 3 else
 if cS l.hs||cS l.qs then 7 else
 if(l.hs.length+l.qs.length==0)||!iX l.hs||!qOk l.hs l.qs||eL l.hs l.qs then 1 else 0
def aI(ls:List Lock)(k:Nat):Lock:=ls.getD k Lock.zero
def jH(ls:List Lock)(k:Nat):Int:=
 if !inB (aI ls k).r 0 100 then 3 else
 if 0<k/\(aI ls k).r<=(aI ls (k-1)).r then 1 else dL (aI ls k)
def cI(ls:List Lock):List Hold:=ls.flatMap (·.qs)
def pG(ls:List Lock):Nat->Nat->Int
 |0,_=>if cS (cI ls)then 10 else 0
 |f+1,k=>if jH ls k !=0 then jH ls k else pG ls f (k+1)
def aT(ls:List Lock):Int:=pG ls ls.length 0
theorem bW8{ls:List Lock}(h:k=n):pG ls (n-k) k=if cS (cI ls)then 10 else 0:=by subst h;rw[Nat.sub_self];rfl
theorem bW7{ls:List Lock}(h:k<n)(hb:(jH ls k !=0)=A'):pG ls (n-k) k=jH ls k:=by
 obtain⟨f,hf⟩:∃f,n-k=f+1:=⟨n-k-1,by omega⟩
 rw[hf,pG,if_pos hb]
theorem bJ6{ls:List Lock}(h:k<n)(hb:(jH ls k !=0)=F'):pG ls (n-k) k=pG ls (n-(k+1)) (k+1):=by
 obtain⟨f,hf⟩:∃f,n-k=f+1:=⟨n-k-1,by omega⟩
 rw[hf,pG,if_neg (by simp[hb]),show n-(k+1)=f by omega]
theorem aN5{ls:List Lock}(h:inB (aI ls k).r 0 100=F'):jH ls k=3:=by unfold jH;rw[h];rfl
theorem aN4{ls:List Lock}(h:inB (aI ls k).r 0 100=A')(h0:0<k)(h1:(aI ls k).r<=(aI ls (k-1)).r):jH ls k=1:=by unfold jH;rw[h,if_neg (by simp),if_pos ⟨h0,h1⟩]
theorem yP{ls:List Lock}(h:inB (aI ls k).r 0 100=A')(h1:¬(0<k/\(aI ls k).r<=(aI ls (k-1)).r)):jH ls k=dL (aI ls k):=by unfold jH;rw[h,if_neg (by simp),if_neg h1]
theorem wN{l:Lock}(h:20<l.hs.length\/20<l.qs.length):dL l=2:=by unfold dL;rw[if_pos h]
theorem wO{l:Lock}(h:¬(20<l.hs.length\/20<l.qs.length))(h2:(bO l.hs&&bO l.qs)=F'):dL l=3:=by unfold dL;rw[if_neg h,h2];rfl
theorem uB{l:Lock}(h:¬(20<l.hs.length\/20<l.qs.length))(h2:(bO l.hs&&bO l.qs)=A')(h3:(cS l.hs||cS l.qs)=A'):dL l=7:=by unfold dL;rw[if_neg h,h2,if_neg (by simp),if_pos h3]
theorem aN6{l:Lock}(h:¬(20<l.hs.length\/20<l.qs.length))(h2:(bO l.hs&&bO l.qs)=A')(h3:(cS l.hs||cS l.qs)=F')
  (h4:((l.hs.length+l.qs.length==0)||!iX l.hs||!qOk l.hs l.qs||eL l.hs l.qs)=A'):dL l=1:=by
 unfold dL;rw[if_neg h,h2,if_neg (by simp),h3,if_neg (by simp),if_pos h4]
theorem bQ2{l:Lock}(h:¬(20<l.hs.length\/20<l.qs.length))(h2:(bO l.hs&&bO l.qs)=A')(h3:(cS l.hs||cS l.qs)=F')
  (h4:((l.hs.length+l.qs.length==0)||!iX l.hs||!qOk l.hs l.qs||eL l.hs l.qs)=F'):dL l=0:=by
 unfold dL;rw[if_neg h,h2,if_neg (by simp),h3,if_neg (by simp),h4,if_neg (by simp)]
theorem fU{l:Lock}(h:dL l=0):l.hs.length<=20/\l.qs.length<=20/\bO l.hs=A'/\bO l.qs=A'/\cS l.hs=F'/\cS l.qs=F'/\0<l.hs.length+l.qs.length/\iX l.hs=A'/\qOk l.hs l.qs=A'/\eL l.hs l.qs=F':=by
 by_cases h1:20<l.hs.length\/20<l.qs.length
 .rw[wN h1]at h;cases h
 cases h2:(bO l.hs&&bO l.qs)
 .rw[wO h1 h2]at h;cases h
 cases h3:(cS l.hs||cS l.qs)
 .cases h4:((l.hs.length+l.qs.length==0)||!iX l.hs||!qOk l.hs l.qs||eL l.hs l.qs)
  .simp at h1 h2 h3 h4;obtain⟨⟨⟨h5,h6⟩,h7⟩,h8⟩:=h4;refine⟨by omega,by omega,h2.1,h2.2,h3.1,h3.2,?_,h6,h7,h8⟩;rcases Ei l.hs.length with h0|h0
   .have:=h5 (Dd.1 h0);have:l.qs.length≠0:=fun e=>this (Dd.1 e);omega
   .omega
  .rw[aN6 h1 h2 h3 h4]at h;cases h
 .rw[uB h1 h2 h3]at h;cases h
theorem cH6{ls:List Lock}(n k:Nat)(h:pG ls n k=0):(∀i,k<=i->i<k+n->jH ls i=0)/\cS (cI ls)=F':=by
 induction n generalizing k with
 |zero=>
  refine⟨fun i h1 h2=>by omega,?_⟩;unfold pG at h;cases ht:cS (cI ls)
  .rfl
  .rw[ht]at h;cases h
 |succ n ih=>
  unfold pG at h;split at h
  .next hb=>simp[h]at hb
  .next hb=>
   obtain⟨h1,h2⟩:=ih _ h;refine⟨fun i hi hj=>?_,h2⟩;by_cases hik:i=k
   .subst hik;simpa using hb
   .exact h1 i (by omega) (by omega)
theorem eT{ls:List Lock}(h:aT ls=0):(∀i,i<ls.length->jH ls i=0)/\cS (cI ls)=F':=by obtain⟨h1,h2⟩:=cH6 _ _ h;exact⟨fun i hi=>h1 i (Ad _) (by omega),h2⟩
theorem iM{ls:List Lock}(h:jH ls k=0):0<=(aI ls k).r/\(aI ls k).r<=100/\(0<k->(aI ls (k-1)).r<(aI ls k).r)/\dL (aI ls k)=0:=by
 cases h1:inB (aI ls k).r 0 100
 .rw[aN5 h1]at h;cases h
 by_cases h2:0<k/\(aI ls k).r<=(aI ls (k-1)).r
 .rw[aN4 h1 h2.1 h2.2]at h;cases h
 .rw[yP h1 h2]at h;unfold inB at h1;simp at h1;refine⟨h1.1,h1.2,fun h0=>?_,h⟩;rcases Int.lt_or_le (aI ls (k-1)).r (aI ls k).r with h3|h3
  .exact h3
  .exact absurd ⟨h0,h3⟩ h2
def gO(ls:List Lock)(i:Nat):Bool:=(aI ls i).qs.any fun q=>(List.range i).any fun j=>aV (aI ls j).qs q.t
theorem aW4{ls:List Lock}(h:∀i,i<ls.length->cS (aI ls i).qs=F'):cS (cI ls)=(List.range ls.length).any (gO ls):=by
 have key:cS (cI ls)=F'↔(List.range ls.length).any (gO ls)=F':=by
  rw[gH];unfold cI;rw[List.pairwise_flatMap];have hA:(∀a∈ls,a.qs.Pairwise fun a b=>a.t≠b.t):=by intro a ha;obtain⟨i,hi,rfl⟩:=Co ha;have:=h i hi;rw[gH]at this;simpa[aI,List.getD,hi]using this
  rw[Ed,Cl];constructor
  .rintro⟨_,hp⟩ i hi;simp only[Dg]at hi;unfold gO aV;simp only[Ct,not_exists,not_and,Dg];intro q hq j hj x hx hxq;have:=hp j i (by omega) hi hj x (by simpa[aI,List.getD,show j<ls.length by omega]using hx) q (by simpa[aI,List.getD,hi]using hq);simp at hxq;exact this hxq
  .intro hc;refine⟨hA,fun i j hi hj hij x hx y hy he=>?_⟩;have:=hc j (by simpa using hj);apply this;unfold gO aV;simp only[Ct,Dg];exact⟨y,by simpa[aI,List.getD,hj]using hy,i,hij,x,by simpa[aI,List.getD,hi]using hx,by simpa using he⟩
 cases h1:cS (cI ls)<;>cases h2:(List.range ls.length).any (gO ls)<;>simp_all
end Ch
theorem aP4(a b:Int)(w:World)(ha:Ch.isM a=A')(hb:Ch.isM b=A')(hab:¬b<a):
  Calls prog 205 #[I J a,I J b] w fun e w'=>e=R' (X (Ch.tab rX a b))/\w'=w:=by
 rcases dK ha with rfl|rfl|rfl|rfl|rfl|rfl;all_goals rcases dK hb with rfl|rfl|rfl|rfl|rfl|rfl
 all_goals first|(exfalso;revert hab;decide)|skip
 all_goals
  clear ha hb hab;go_enter func205,ntmps205
  go_wp2_with fail
  go_ret;exact⟨rfl,rfl⟩
theorem bN1(a b:Int)(ha:Ch.isM a=A')(hb:Ch.isM b=A'):Ch.tab rX a b=Ch.tab rX b a:=by
 rcases dK ha with rfl|rfl|rfl|rfl|rfl|rfl;all_goals rcases dK hb with rfl|rfl|rfl|rfl|rfl|rfl
 all_goals rfl
theorem aY2(a b:Int)(w:World)(ha:Ch.isM a=A')(hb:Ch.isM b=A'):
  Calls prog 205 #[I J a,I J b] w fun e w'=>e=R' (X (Ch.tab rX a b))/\w'=w:=by
 by_cases hab:b<a
 .rw[bN1 a b ha hb];have BI:=fun w'=>aP4 b a w' hb ha (by omega);obtain⟨t,ht⟩:∃t,Hid (Ch.tab rX b a=t):=⟨_,rfl⟩
  rw[ht.out]at BI⊢;clear ha hb ht;go_enter func205,ntmps205
  go_wp2_with(go_at_call 205;refine E' (BI _) ?_)
  go_ret;exact⟨rfl,rfl⟩
 .exact aP4 a b w ha hb hab
theorem sM(a b:Int)(w:World)(ha:Ch.isM a=A')(hb:Ch.isM b=A'):
  Calls prog 200 #[I J a,I J b] w fun e w'=>e=R' (X (Ch.tab pP a b))/\w'=w:=by
 rcases dK ha with rfl|rfl|rfl|rfl|rfl|rfl;all_goals rcases dK hb with rfl|rfl|rfl|rfl|rfl|rfl
 all_goals
  clear ha hb;go_enter func200,ntmps200
  go_wp2_with fail
  go_ret;exact⟨rfl,rfl⟩
def dB7(a b:Int)(k:Nat):Bool:=Ch.tab pP k a&&Ch.tab pP k b
theorem cQ5(h:k<6):Ch.isM k=A':=by simp[Ch.isM,inB];omega
theorem aD8{a:Int}(ha:Ch.isM a=A')(hb:Ch.isM b=A'):Ch.isM (eX a b)=A':=by
 rcases dK ha with rfl|rfl|rfl|rfl|rfl|rfl;all_goals rcases dK hb with rfl|rfl|rfl|rfl|rfl|rfl
 all_goals rfl
def Ch.isW(k:Int):Bool:=k==2||k==3
def Ch.isE(k:Int):Bool:=k==6||k==7
def eY(f l:Ac):Bool:=if isW f.k=A' then(l.tx !=f.tx&&fL l.k l.a l.b l.v f.a)else if isE f.k=A' then l.tx==f.tx else F'
def dG(f:Ac):List Ac->Bool
 |[]=>A'
 |l::r=>if eY f l=A' then F' else if(l.tx==f.tx&&isE l.k)=A' then A' else dG f r
def dZ:List Ac->Bool
 |[]=>A'
 |a::r=>if dG a r=A' then dZ r else F'
def mH(ts:List Ac):Bool:=if cQ ts=0 then dZ ts else F'
theorem uV{l:Ac}(h:isW f.k=A'):eY f l=(l.tx !=f.tx&&fL l.k l.a l.b l.v f.a):=by unfold eY;rw[if_pos h]
theorem uT{l:Ac}(h:isW f.k=F')(h':isE f.k=A'):eY f l=(l.tx==f.tx):=by unfold eY;rw[if_neg (by simp[h]),if_pos h']
theorem uU{l:Ac}(h:isW f.k=F')(h':isE f.k=F'):eY f l=F':=by unfold eY;rw[if_neg (by simp[h]),if_neg (by simp[h'])]
theorem dI7{k:Int}(h:isW k=A'):isE k=F':=by unfold isW at h;simp at h;rcases h with rfl|rfl<;>rfl
theorem zB(h:k<ts.length):ts.drop k=aM ts k::ts.drop (k+1):=by rw[Ck h];simp[aM,List.getD,h]
theorem yL{l:Ac}(h:eY f l=A'):dG f (l::r)=F':=by rw[dG,if_pos h]
theorem aF5{l:Ac}(h:eY f l=F')(h':(l.tx==f.tx&&isE l.k)=A'):dG f (l::r)=A':=by rw[dG,if_neg (by simp[h]),if_pos h']
theorem aB9{l:Ac}(h:eY f l=F')(h':(l.tx==f.tx&&isE l.k)=F'):dG f (l::r)=dG f r:=by rw[dG,if_neg (by simp[h]),if_neg (by simp[h'])]
theorem aA6(h:k<ts.length)(h':dG (aM ts k) (ts.drop (k+1))=F'):dZ (ts.drop k)=F':=by rw[zB h,dZ,if_neg (by simp[h'])]
theorem aA7(h:k<ts.length)(h':dG (aM ts k) (ts.drop (k+1))=A'):dZ (ts.drop k)=dZ (ts.drop (k+1)):=by rw[zB h,dZ,if_pos h']
theorem vR(h:(cQ ts !=0)=A'):mH ts=F':=by unfold mH;rw[if_neg (by simpa using h)]
theorem xQ(h:cQ ts=0):mH ts=dZ ts:=by unfold mH;rw[if_pos h]
theorem pN{t:Ac}(h:t.fault=0)(hw:isW t.k=A'):inB t.a 0 99=A':=by
 unfold Ac.fault at h;split at h
 .simp at h
 .unfold isW at hw;simp only[Dy,Dx]at hw;cases hk:inB t.a 0 99 with
  |true=>rfl
  |false=>
   exfalso;rcases hw with e|e
   .unfold aF at h;rw[e]at h;simp[hk]at h
   .unfold aF at h;rw[e]at h;simp[hk]at h
theorem bM9{t:Ac}(h:t.fault=0):aF t.k t.a t.b t.v=0:=by
 unfold Ac.fault at h;split at h
 .simp at h
 .exact h
theorem aG7{l:Ac}(hf:f.fault=0)(hl:l.fault=0)(h:(l.tx==f.tx)=F'):eY f l=(isW f.k&&iW l.k l.a l.b f.a):=by
 cases hw:isW f.k with
 |true=>
  rw[uV hw,sC (bM9 hl) (pN hf hw)];have:(l.tx !=f.tx)=A':=by simpa[bne]using h
  rw[this]
 |false=>
  cases he:isE f.k with
  |true=>rw[uT hw he,h];rfl
  |false=>rw[uU hw he];rfl
theorem aS8{l:Ac}(h:(l.tx==f.tx)=A'):eY f l=isE f.k:=by
 cases hw:isW f.k with
 |true=>
  rw[uV hw,dI7 hw];have:(l.tx !=f.tx)=F':=by simpa[bne]using h
  rw[this];rfl
 |false=>
  cases he:isE f.k with
  |true=>rw[uT hw he,h]
  |false=>rw[uU hw he]
theorem aT7{a:Int}(ha:Ch.isM a=A')(hb:Ch.isM b=A')(hk:k<6)(hj:(k:Int)<=eX a b):dB7 a b k=decide ((k:Int)=eX a b):=by
 have:k=0\/k=1\/k=2\/k=3\/k=4\/k=5:=by omega
 rcases dK ha with rfl|rfl|rfl|rfl|rfl|rfl;all_goals rcases dK hb with rfl|rfl|rfl|rfl|rfl|rfl
 all_goals rcases this with rfl|rfl|rfl|rfl|rfl|rfl
 all_goals first|rfl|(exfalso;revert hj;decide)
theorem cG6(a b:Int)(w:World)(ha:Ch.isM a=A')(hb:Ch.isM b=A'):
  Calls prog 201 #[I J a,I J b] w fun e w'=>e=R' (I J (eX a b))/\w'=w:=by
 have HF:Hid (∀k:Nat,k<6->(k:Int)<=eX a b->(Ch.tab pP k a&&Ch.tab pP k b)=decide ((k:Int)=eX a b)):=fun k hk hj=>aT7 ha hb hk hj;obtain⟨j0,j1⟩:=dA7 (aD8 ha hb);generalize eX a b=jj at*;obtain⟨j,rfl⟩:=Int.eq_ofNat_of_zero_le j0;go_enter func201,ntmps201
 go_wp2_with fail
 go_loop [5] (fun i=>∃k:Nat,k<=j/\i=I J k) (fun i=>6-(intOf i).toNat)
 case atStart=>exact⟨0,Ad _,rfl⟩
 case round=>
  obtain⟨k,hk,rfl⟩:=hrel;by_cases hlt:k<5
  .have hki:(k:Int)<5:=by omega
   have HA:=fun W=>sM k a W (cQ5 (by omega)) ha;have HB:=fun W=>sM k b W (cQ5 (by omega)) hb;have hV:=HF.out k (by omega) (by omega);clear HF ha hb;generalize Ch.tab pP k a=p at*;generalize Ch.tab pP k b=q at*;cases p
   .have hkj:k≠j:=by intro h;subst h;simp at hV
    clear hV;go_wp2_with(go_at_call 200;(first|refine(HA _).mono ?_|refine(HB _).mono ?_);rintro e w'⟨rfl,rfl⟩)
    go_round
    case rel=>exact⟨k+1,by omega,by go_num⟩
    case measure=>simp[intOf];omega
   .cases q
    .have hkj:k≠j:=by intro h;subst h;simp at hV
     clear hV;go_wp2_with fail
     refine(HA _).mono ?_;rintro e w'⟨rfl,rfl⟩;go_wp2_with fail
     refine(HB _).mono ?_;rintro e w'⟨rfl,rfl⟩;go_wp2_with fail
     go_round
     case rel=>exact⟨k+1,by omega,by go_num⟩
     case measure=>simp[intOf];omega
    .obtain rfl:k=j:=by
      have:(k:Int)=j:=by simpa using hV
      omega
     clear hV;go_wp2_with fail
     refine(HA _).mono ?_;rintro e w'⟨rfl,rfl⟩;go_wp2_with fail
     refine E' (HB _) ?_;go_wp2_with fail
     go_ret;exact⟨rfl,rfl⟩
  .obtain rfl:k=j:=by omega
   obtain rfl:k=5:=by omega
   go_wp2_with fail
   go_ret;exact⟨rfl,rfl⟩
def jJ(es:List (Int×Int))(f:Int->Int)(x w:Int):Int:=es.foldl (fun b e=>if e.1=x/\f e.2=w/\(b=0\/e.2<b)then e.2 else b) 0
def pB(es:List (Int×Int))(f:Int->Int)(t:Int):Int:=es.foldl (fun s e=>if e.1=t/\0<=f e.2/\(s<0\/f e.2<s)then f e.2 else s) (-1)
def fR(es:List (Int×Int))(f:Int->Int):Nat->Int->List Int
 |0,_=>[]
 |k+1,x=>jJ es f x ((k:Int)+1)::fR es f k (jJ es f x ((k:Int)+1))
def fP(es:List (Int×Int))(t:Int):List Int:=
 if pB es (dD es t es.length) t<0 then []else t::fR es (dD es t es.length) (pB es (dD es t es.length) t).toNat t
namespace Ch
def fW(ls:List (List Row))(key:Int):Nat->Nat
 |0=>0
 |k+1=>if gL (ls.getD k [])<=key then k else fW ls key k
theorem dD2(ls:List (List Row))(key:Int)(k:Nat):fW ls key k<=k:=by
 induction k with
 |zero=>exact z'
 |succ k ih=>simp only[fW];split<;>omega
theorem aL7(h:gL (ls.getD k [])<=key):fW ls key (k+1)=k:=by rw[fW,if_pos h]
theorem aX0(h:¬gL (ls.getD k [])<=key):fW ls key (k+1)=fW ls key k:=by rw[fW,if_neg h]
def aC5(ls:List (List Row))(key:Int):Int:=if aL ls !=0 then aL ls else if inB key 0 99 then 0 else 3
theorem bJ1(h:aC5 ls key=0):aL ls=0/\inB key 0 99=A':=by
 unfold aC5 at h;by_cases hf:(aL ls !=0)=A'
 .rw[if_pos hf]at h;simp[h]at hf
 .rw[if_neg hf]at h;by_cases hb:inB key 0 99=A'
  .exact⟨by simpa using hf,hb⟩
  .rw[if_neg hb]at h;omega
end Ch
namespace Ch
theorem wC{k:Int}(h:¬low p k=A'):∀q,p=Y q->q<k:=by intro q hq;subst hq;simp[low]at h;omega
theorem dM2(h:iU p rs=0):(∀r∈rs,∀q,p=Y q->q<r.k)/\rs.Pairwise (fun a b=>a.k<b.k):=by
 induction rs generalizing p with
 |nil=>exact⟨fun r hr=>by simp at hr,List.Pairwise.nil⟩
 |cons q rs ih=>
  rw[gJ]at h;by_cases hq:(q.fault !=0)=A'
  .rw[if_pos hq]at h;simp[h]at hq
  .rw[if_neg hq]at h;by_cases hl:low p q.k=A'
   .rw[if_pos hl]at h;omega
   .rw[if_neg hl]at h;have⟨h1,h2⟩:=ih h;refine⟨?_,List.Pairwise.cons (fun r hr=>h1 r hr q.k rfl) h2⟩;intro r hr z hz;have h0:=wC hl z hz;rcases Am.1 hr with rfl|hr
    .exact h0
    .have:=h1 r hr q.k rfl;omega
theorem dL8(h:cL l=0):l.Pairwise (fun a b=>a.k<b.k):=by
 unfold cL at h;by_cases h4:4<l.length
 .rw[if_pos h4]at h;omega
 .rw[if_neg h4]at h;exact(dM2 h).2
theorem yJ(h:l.Pairwise (fun a b=>a.k<b.k)):∀r∈l,gL l<=r.k:=by
 cases l with
 |nil=>intro r hr;simp at hr
 |cons q l=>
  intro r hr;have e:gL (q::l)=q.k:=rfl;rw[e];rcases Am.1 hr with rfl|hr
  .omega
  .have:=(Cw.1 h).1 r hr;omega
theorem aZ2(h:l.Pairwise (fun a b=>a.k<b.k)):∀r∈l,r.k<=nO l:=by
 intro r hr;obtain⟨j,hj,rfl⟩:=Co hr;have hl:l.length-1<l.length:=by omega
 have e:nO l=(l[l.length-1]).k:=by simp[nO,List.getD,hl]
 rw[e];by_cases hjl:j=l.length-1
 .subst hjl;omega
 .have:=(Cl.1 h) j (l.length-1) hj hl (by omega);omega
theorem cX0(h:tF p ls=0):(∀l∈ls,∀r∈l,∀q,p=Y q->q<r.k)/\(∀l∈ls,l.Pairwise (fun a b=>a.k<b.k))/\ls.Pairwise (fun a b=>∀x∈a,∀y∈b,x.k<y.k):=by
 induction ls generalizing p with
 |nil=>exact⟨fun r hr=>by simp at hr,fun r hr=>by simp at hr,List.Pairwise.nil⟩
 |cons q ls ih=>
  rw[kM]at h;by_cases h0:q.length=0
  .rw[if_pos h0]at h;omega
  .rw[if_neg h0]at h;by_cases hq:(cL q !=0)=A'
   .rw[if_pos hq]at h;simp[h]at hq
   .rw[if_neg hq]at h;by_cases hl:low p (gL q)=A'
    .rw[if_pos hl]at h;omega
    .rw[if_neg hl]at h;have⟨h1,h2,h3⟩:=ih h;have hup:=dL8 (l:=q) (by simpa using hq);have hfi:=yJ hup;have hla:=aZ2 hup;refine⟨?_,?_,List.Pairwise.cons ?_ h3⟩
     .intro l hm r hr z hz;have hz0:=wC hl z hz;rcases Am.1 hm with rfl|hm
      .have:=hfi r hr;omega
      .have:=h1 l hm r hr (nO q) rfl;obtain⟨x,hx⟩:=List.exists_mem_of_length_pos (l:=q) (by omega);have h5:=hfi x hx;have h6:=hla x hx;omega
     .intro l hm;rcases Am.1 hm with rfl|hm
      .exact hup
      .exact h2 l hm
     .intro l hm x hx y hy;have:=h1 l hm y hy (nO q) rfl;have:=hla x hx;omega
theorem dR0(h:aL ls=0):(∀l∈ls,l.Pairwise (fun a b=>a.k<b.k))/\ls.Pairwise (fun a b=>∀x∈a,∀y∈b,x.k<y.k):=by
 unfold aL at h;by_cases h6:60<ls.length
 .rw[if_pos h6]at h;omega
 .rw[if_neg h6]at h;exact(cX0 h).2
theorem lT(l:List α)(d:α)(i:Nat)(h:i<l.length):l.getD i d=l[i]:=by simp[List.getD,h]
def iL(ls:List (List Row))(key:Int):Option Row:=ls.flatten.find? (fun r=>r.k==key)
end Ch
def c7(r:Rec):List Value:=[I J r.kd,I J r.tx,I J r.ky,X r.hd,I J r.ol,X r.hs,I J r.nw]
def rc7(rs:List Rec):List Value:=rs.flatMap c7
theorem cR8(rs:List Rec):(rc7 rs).length=rs.length*7:=by
 induction rs with
 |nil=>rfl
 |cons r rs ih=>simp only[rc7,c7,Cc,Bv,List.length_cons,List.length_nil]at*;omega
theorem bS7(rs:List Rec)(r:Rec):rc7 (rs++[r])=rc7 rs++c7 r:=by simp[rc7]
def recV(r:Rec):Value:=U #[I J r.kd,I J r.tx,I J r.ky,X r.hd,I J r.ol,X r.hs,I J r.nw]
theorem sT{l:List Int}(h:4000<s.length+l.length):eC s l=2:=by unfold eC;rw[if_pos h]
theorem sU{l:List Int}(h:¬4000<s.length+l.length)(h2:(kY s==s.length)=F'\/(kY l==l.length)=F'):eC s l=5:=by
 unfold eC;rw[if_neg h,if_pos];rcases h2 with h2|h2
 .left;simpa using h2
 .right;simpa using h2
theorem aQ9{l:List Int}(h:¬4000<s.length+l.length)(h1:(kY s==s.length)=A')(h2:(kY l==l.length)=A'):eC s l=0:=by unfold eC;rw[if_neg h,if_neg];simp at h1 h2;omega
def Ch.Ac.wr(t:Ac)(txn:Int):Bool:=t.tx==txn&&isW t.k
def jM(ts:List Ac)(txn key:Int):Bool:=ts.any fun t=>t.wr txn&&t.a==key
def jW(ts:List Ac)(txn:Int)(m:Nat):List Int:=((List.range m).map fun(i:Nat)=>(i:Int)).filter (jM ts txn)
def Ch.wrL(ts:List Ac)(txn:Int):List Int:=jW ts txn 100
theorem bI8(ts:List Ac)(txn:Int)(m:Nat):jW ts txn (m+1)=jW ts txn m++(if jM ts txn (m:Int)=A' then [(m:Int)]else []):=by
 unfold jW;rw[Fg,Dp,Bl];congr 1;by_cases h:jM ts txn (m:Int)=A'
 .simp[h]
 .simp[h]
theorem aV1(ts:List Ac)(txn:Int):(wrL ts txn).Pairwise (· < ·):=by unfold wrL jW;apply List.Pairwise.filter;rw[Gc];exact List.Pairwise.imp (fun h=>by omega) List.pairwise_lt_range
theorem aR2(hf:∀k,k<ts.length->(aM ts k).fault=0)(txn t:Int):t∈wrL ts txn↔jM ts txn t=A':=by
 unfold wrL jW;simp only[By,Db,Dg];constructor
 .rintro⟨⟨i,hi,rfl⟩,h⟩;exact h
 .intro h;refine⟨?_,h⟩;unfold jM at h;rw[Ct]at h;obtain⟨x,hx,h⟩:=h;obtain⟨k,hk,rfl⟩:=Cy.1 hx;have e:aM ts k=ts[k]:=by simp[aM,List.getD,hk]
  simp only[Ac.wr,Bq,Dx]at h;have hb:=pN (e▸hf k hk) h.1.2;rw[h.2]at hb;unfold inB at hb;simp only[Bq,Cs]at hb;exact⟨t.toNat,by omega,by omega⟩
def fB(ts:List Ac)(is:List Nat):List Int:=(is.filter fun i=>isW (aM ts i).k).map fun i=>(aM ts i).a
theorem bD7(ts:List Ac)(is:List Nat)(i:Nat)(h:isW (aM ts i).k=A'):fB ts (is++[i])=fB ts is++[(aM ts i).a]:=by unfold fB;rw[Bl,Dp];simp[h]
theorem bP0(ts:List Ac)(is:List Nat)(i:Nat)(h:isW (aM ts i).k=F'):fB ts (is++[i])=fB ts is:=by unfold fB;rw[Bl,Dp];simp[h]
theorem zN(ts:List Ac)(is:List Nat):(fB ts is).length<=is.length:=by unfold fB;rw[List.length_map];exact Dt _ _
def cJ(ts:List Ac)(txn:Int)(m:Nat):List Nat:=(List.range m).filter fun i=>(aM ts i).tx==txn
theorem kF(ts:List Ac)(txn:Int)(m:Nat):cJ ts txn (m+1)=cJ ts txn m++(if((aM ts m).tx==txn)=A' then [m]else []):=by
 unfold cJ;rw[Fg,Bl];congr 1;by_cases h:((aM ts m).tx==txn)=A'
 .simp[h]
 .simp[h]
theorem wT(ts:List Ac)(txn:Int)(m:Nat):(cJ ts txn m).length<=m:=by unfold cJ;refine Ak (Dt _ _) (by simp)
theorem bP1(ts:List Ac)(txn t:Int):t∈fB ts (cJ ts txn ts.length)↔jM ts txn t=A':=by
 unfold fB cJ jM;rw[Ct];simp only[Db,By,Dg,Bq,Dx];constructor
 .rintro⟨i,⟨⟨h1,h2⟩,h3⟩,h4⟩;have e:aM ts i=ts[i]:=by simp[aM,List.getD,h1]
  refine⟨ts[i],Ce h1,?_,e▸h4⟩;rw[<-e];simp only[Ac.wr,Bq,Dx];exact⟨h2,h3⟩
 .rintro⟨x,hx,h3,h4⟩;obtain⟨k,hk,rfl⟩:=Cy.1 hx;have e:aM ts k=ts[k]:=by simp[aM,List.getD,hk]
  rw[<-e]at h3 h4;simp only[Ac.wr,Bq,Dx]at h3;exact⟨k,⟨⟨hk,h3.1⟩,h3.2⟩,h4⟩
theorem bZ8(d:Array Int)(hs:∀i j,i<=j->j<d.size->d[i]! <=d[j]!):∀m,m<=d.size->(Lib.compactUpTo d m).Pairwise (· < ·)/\(∀x,x∈Lib.compactUpTo d m↔∃j,j<m/\d[j]! =x):=by
 intro m;induction m with
 |zero=>intro _;exact⟨by simp[Lib.compactUpTo],fun x=>by simp[Lib.compactUpTo]⟩
 |succ m ih=>
  intro hm;obtain⟨h1,h2⟩:=ih (by omega);rw[Lib.compactUpTo_succ];by_cases hk:Lib.keeps d m=A'
  .rw[if_pos hk];refine⟨Fq.2 ⟨h1,by simp,fun x hx y hy=>?_⟩,fun x=>?_⟩
   .simp at hy;subst hy;obtain⟨j,hj,rfl⟩:=(h2 x).1 hx;simp only[Lib.keeps,Cs]at hk;rcases hk with h0|h0
    .omega
    .have a:=hs j (m-1) (by omega) (by omega);have b:=hs (m-1) m (by omega) (by omega);omega
   .rw[Aj,h2 x];simp only[Am,Cu,Eh];constructor
    .rintro(⟨j,hj,e⟩|e)
     .exact⟨j,by omega,e⟩
     .exact⟨m,by omega,e.symm⟩
    .rintro⟨j,hj,e⟩;rcases Cd j m with h|h
     .exact .inl ⟨j,h,e⟩
     .obtain rfl:j=m:=by omega
      exact .inr e.symm
  .rw[if_neg hk,Dz];refine⟨h1,fun x=>?_⟩;rw[h2 x];simp only[Lib.keeps,Cs]at hk;have hk':m≠0/\d[m]! =d[m-1]! :=by
    constructor
    .intro h;exact hk (.inl h)
    .rcases Int.decEq d[m]! d[m-1]! with h|h
     .exact absurd (.inr h) hk
     .exact h
   constructor
   .rintro⟨j,hj,e⟩;exact⟨j,by omega,e⟩
   .rintro⟨j,hj,e⟩;rcases Cd j m with h|h
    .exact⟨j,h,e⟩
    .obtain rfl:j=m:=by omega
     exact⟨j-1,by omega,by rw[<-hk'.2];exact e⟩
theorem cJ5{xs ys:List Int}(hx:xs.Pairwise (· < ·))(hy:ys.Pairwise (· < ·))(h:∀t,t∈xs↔t∈ys):xs=ys:=by
 have hp:xs.Perm ys:=(List.perm_ext_iff_of_nodup (hx.imp (fun h e=>by omega)) (hy.imp (fun h e=>by omega))).2 h;refine hp.eq_of_pairwise (le:=fun x y=>x<=y) ?_ ?_ ?_
 .intro a b _ _ h1 h2;omega
 .exact hx.imp (fun h=>by omega)
 .exact hy.imp (fun h=>by omega)
theorem bB2(zs:List Int):(Lib.compact (zs.mergeSort fun x y=>decide (x<=y))).Pairwise (· < ·)/\∀x,x∈Lib.compact (zs.mergeSort fun x y=>decide (x<=y))↔x∈zs:=by
 have hs:=List.pairwise_mergeSort (le:=fun x y:Int=>decide (x<=y)) (fun a b c h1 h2=>by simp at*;omega) (fun a b=>by simp;omega) zs;have hm:∀x,x∈(zs.mergeSort fun x y=>decide (x<=y))↔x∈zs:=fun x=>(List.mergeSort_perm zs _).mem_iff;generalize(zs.mergeSort fun x y=>decide (x<=y))=S at*;rw[Cl]at hs;have key:=bZ8 S.toArray (fun i j hij hj=>by
  have hj':j<S.length:=by simpa using hj
  rcases Cd i j with h|h
  .have:=hs i j (by omega) hj' h;simp only[Cs]at this;simpa[getElem!_pos,show i<S.length by omega,hj']using this
  .obtain rfl:i=j:=by omega
   exact Int.le_refl _) S.length (by simp)
 refine⟨key.1,fun x=>?_⟩;unfold Lib.compact;rw[key.2 x,<-hm x];constructor
 .rintro⟨j,hj,e⟩;rw[<-e];have:S.toArray[j]! =S[j]:=by simp[getElem!_pos,hj]
  rw[this];exact Ce hj
 .intro h;obtain⟨k,hk,e⟩:=Cy.1 h;exact⟨k,hk,by simp[getElem!_pos,hk,e]⟩
theorem dI8(hf:∀k,k<ts.length->(aM ts k).fault=0)(txn:Int):Lib.compact ((fB ts (cJ ts txn ts.length)).mergeSort fun x y=>decide (x<=y))=wrL ts txn:=by obtain⟨h1,h2⟩:=bB2 (fB ts (cJ ts txn ts.length));refine cJ5 h1 (aV1 ts txn) (fun t=>?_);rw[h2 t,bP1,aR2 hf]
def Ch.wrR(ts:List Ac)(txn:Int):Int×List Int:=if cQ ts !=0 then(cQ ts,[])else if inB txn 1 999=A' then(0,wrL ts txn)else(3,[])
theorem aR3{c:Int}(h:cQ ts=c)(hc:(c !=0)=A'):wrR ts txn=(c,[]):=by unfold wrR;rw[h,if_pos hc]
theorem aR4(h:cQ ts=0)(ht:inB txn 1 999=F'):wrR ts txn=(3,[]):=by unfold wrR;rw[h,ht];rfl
theorem bA3(h:cQ ts=0)(ht:inB txn 1 999=A'):wrR ts txn=(0,wrL ts txn):=by unfold wrR;rw[h,ht];rfl
theorem aV2(hk:k<ts.length)(h:(ts.take k).any (fun t=>t.wr txn&&t.a==key)=F')(h':((aM ts k).wr txn&&(aM ts k).a==key)=F'):(ts.take (k+1)).any (fun t=>t.wr txn&&t.a==key)=F':=by rw[xS ts k hk,List.any_append,h];simp only[List.any_cons,List.any_nil,h',Gg]
theorem bJ0(hk:k<ts.length)(h':((aM ts k).wr txn&&(aM ts k).a==key)=A'):jM ts txn key=A':=by unfold jM;rw[Ct];exact⟨ts[k],Ce hk,by simpa[aM,List.getD,hk]using h'⟩
section
open Go.ChangeShapes Go.WideShapes Go.ChangeAt Go.Joins Go.Deep
theorem Tryz.own:ownKnob prog.godebug=O:=by kernel_rfl
theorem Tryz.laidOut:laidOutB prog=A':=by kernel_rfl
section
variable{H:Type}{enc:TypeId×Value->H}{P:Program}{w:World}{base:Nat}{spare:Nat->Bool}{held:Bool}
end
theorem bR5{enc:TypeId×Value->H}{fuel:Nat}{y:DataW H×List MemPlace}
  (hk:prog.cellsOf 5=1) (hf:DataW.trod enc prog w base spare held fuel 22 [Z a len cap]=Y y):(∃zs,CellsAt w a len (bts zs)/\IsB zs)/\len<=cap:=by
 rcases open_ints underlying22 underlying5 hk hf with⟨hcs,_⟩|⟨x,l,c,zs,hcs,_,hl,hm,hz,_,hcell,hwz⟩
 .simp at hcs;obtain⟨rfl,rfl,rfl⟩:=hcs;exact⟨⟨[],⟨rfl,fun h=>absurd h (by simp)⟩,fun i=>by simp⟩,z'⟩
 .simp at hcs;obtain⟨rfl,rfl,rfl⟩:=hcs;have hle:len<=zs.length:=by rw[hz];split<;>omega
  refine⟨⟨zs.take len,⟨by simp[bts,Nat.min_eq_left hle],fun hpos=>?_⟩,?_⟩,by omega⟩
  .obtain⟨b,off,spot⟩:=x;have hc0:=hcell 0 (by omega);have hspot:spot=O:=by simpa[Addr.add]using World.cell?_spot hc0
   subst hspot;refine⟨b,off,rfl,fun i hi=>?_⟩;have:=hcell i (by omega);rw[add_plain]at this;rw[this];simp[bts,hi,List.getD,show i<zs.length by omega]
  .have:=range_u8 (zs:=zs.take len) (fun n hn=>hwz n (Cg hn));simpa[IsB,List.getD]using this
theorem cI5{enc:TypeId×Value->H}{d:DataW H}{p:List MemPlace}
  (hk:prog.cellsOf 5=1) (h:DataW.Trod enc prog w base spare held 22 (Z a len cap) d p):∃zs,CellsAt w a len (bts zs)/\IsB zs:=by
 obtain⟨fuel,hf⟩:=h;exact(bR5 hk (by simpa[Value.cells]using hf)).1
end
end Go.Proofs.YtpbbokalojdooaaGreat
