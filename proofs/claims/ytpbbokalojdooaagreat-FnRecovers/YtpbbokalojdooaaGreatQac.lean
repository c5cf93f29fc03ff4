import Derived.Test.YtpbbokalojdooaaGreatQab
namespace Go.Proofs.YtpbbokalojdooaaGreat
open Go.RowKit Ch Go.Proofs.Tryz
set_option linter.unusedSimpArgs false
set_option linter.unusedVariables false
set_option maxRecDepth 20000
set_option maxHeartbeats 8000000
open Value renaming int->I,slice->Z,bool->X,agg->U
open IntKind renaming i64->J
open Option renaming none->O,some->Y
open Obj renaming cells->M
open Ending renaming returned->R'
open Bool renaming true->A',false->F'
variable {a b c kd key t:Int} {ls:List (List Row)} {s:List Int} {rs:List Rec} {l:List Row} {xs:List Value} {base k n size:Nat} {p:Option Int} {row:Option Nat} {α:Type} {e:TypeId} {v:Value} {w w':World}
namespace Ch
structure Hold where
 t:Int
 m:Int
def Hold.zero:Hold:=⟨0,0⟩
structure Lock where
 r:Int
 hs:List Hold
 qs:List Hold
def Lock.zero:Lock:=⟨0,[],[]⟩
theorem tY{l:List α}{p:α->Bool}(d:α)(hk:k<l.length)(h:p (l.getD k d)=F'):l.all p=F':=by
 have hm:l.getD k d∈l:=by simp[List.getD,hk]
 cases hh:l.all p
 .rfl
 .have:=List.all_eq_true.1 hh _ hm;rw[h]at this;cases this
theorem aT0{l:List α}{p:α->Bool}(d:α)(hk:k<l.length)(h:p (l.getD k d)=A'):l.any p=A':=by
 have hm:l.getD k d∈l:=by simp[List.getD,hk]
 exact List.any_eq_true.2 ⟨_,hm,h⟩
theorem wK{l:List α}{p:α->Bool}(d:α)(hk:k<l.length)(h:(l.take k).all p=A')(h2:p (l.getD k d)=A'):(l.take (k+1)).all p=A':=by rw[bT l d k hk,List.all_append,h];simp only[List.all_cons,List.all_nil,h2];rfl
theorem cG7{l:List α}{p:α->Bool}(d:α)(hk:k<l.length)(h:(l.take k).any p=F')(h2:p (l.getD k d)=F'):(l.take (k+1)).any p=F':=by rw[bT l d k hk,List.any_append,h];simp only[List.any_cons,List.any_nil,h2];rfl
theorem dG0{l:List α}{p:α->Bool}(d:α)(h:l.all p=A')(hk:k<l.length):p (l.getD k d)=A':=by
 have hm:l.getD k d∈l:=by simp[List.getD,hk]
 exact List.all_eq_true.1 h _ hm
def aV(l:List Hold)(t:Int):Bool:=l.any fun h=>h.t==t
def atH(l:List Hold)(t:Int):Int:=match l.findIdx? (fun h=>h.t==t)with
 |some i=>i
 |none=> -1
def bQ(l:List Hold)(t:Int):Int:=if aV l t then(l.getD (atH l t).toNat Hold.zero).m else 0
theorem aT4{l:List Hold}(h:aV l t=F'):atH l t= -1:=by
 unfold atH;have:l.findIdx? (fun h=>h.t==t)=O:=by rw[List.findIdx?_eq_none_iff];unfold aV at h;rw[List.any_eq_false]at h;intro x hx;simpa using h x hx
 rw[this]
theorem cH0{l:List Hold}(hk:k<l.length)(h:aV (l.take k) t=F')(he:(l.getD k Hold.zero).t=t):atH l t=k/\aV l t=A':=by
 have h2:aV l t=A':=aT0 Hold.zero hk (by simp only[he];simp);refine⟨?_,h2⟩;unfold atH;have e1:l[k]=l.getD k Hold.zero:=by simp[List.getD,hk]
 have:l.findIdx? (fun h=>h.t==t)=Y k:=by
  rw[List.findIdx?_eq_some_iff_getElem];refine⟨hk,by rw[e1,he];simp,fun j hj=>?_⟩;unfold aV at h;rw[List.any_eq_false]at h;have hm:l[j]∈l.take k:=by rw[List.mem_take_iff_getElem];exact⟨j,by omega,rfl⟩
  simpa using h _ hm
 rw[this]
theorem eA(l:List Hold)(t:Int):(aV l t=F'/\atH l t= -1/\bQ l t=0)\/∃k,k<l.length/\atH l t=(k:Int)/\aV l t=A'/\(l.getD k Hold.zero).t=t/\bQ l t=(l.getD k Hold.zero).m:=by
 cases h:aV l t
 .exact .inl ⟨rfl,aT4 h,by unfold bQ;rw[h];rfl⟩
 .right;cases hf:l.findIdx? (fun h=>h.t==t)with
  |none=>exfalso;rw[List.findIdx?_eq_none_iff]at hf;unfold aV at h;rw[List.any_eq_true]at h;obtain⟨x,hx,hxt⟩:=h;have:=hf x hx;simp_all
  |some k=>
   have ha:atH l t=(k:Int):=by unfold atH;rw[hf]
   rw[List.findIdx?_eq_some_iff_getElem]at hf;obtain⟨hk,he,_⟩:=hf;refine⟨k,hk,ha,rfl,by simpa[List.getD,hk]using he,?_⟩;unfold bQ;rw[h,ha];simp
def eJ(l:List Hold)(t m:Int):Bool:=l.all fun h=>h.t==t||kH h.m m
def lU(h:Hold):Bool:=inB h.t 1 999&&inB h.m 1 5
def aZ(l:List Hold):Bool:=l.all lU
def aW4(l:List Hold):Int:=if aZ l then 0 else 3
theorem wY{l:List Hold}(h:aZ l=A'):aW4 l=0:=by unfold aW4;rw[h];rfl
theorem uD{l:List Hold}(h:aZ l=F'):aW4 l=3:=by unfold aW4;rw[h];rfl
def iQ(l:List Hold):Bool:=l.all fun h=>eJ l h.t h.m
theorem jS{h:Hold}(hn:lU h=A'):isM h.m=A'/\1<=h.m/\h.m<=5/\1<=h.t/\h.t<=999:=by unfold lU inB at hn;unfold isM inB;simp at hn⊢;omega
theorem jO{l:List Hold}(h:aZ l=A')(hk:k<l.length):lU (l.getD k Hold.zero)=A':=dG0 Hold.zero h hk
theorem rS{l:List Hold}(h:aZ l=A')(t:Int):isM (bQ l t)=A'/\(bQ l t !=0)=aV l t:=by
 rcases eA l t with⟨h1,h2,h3⟩|⟨k,hk,h1,h2,h3,h4⟩
 .rw[h1,h3];exact⟨rfl,rfl⟩
 .have:=jS (jO h hk);rw[h4,h2];refine⟨this.1,?_⟩;have hne:(l.getD k Hold.zero).m≠0:=by omega
  simpa using hne
def jU(l:List Hold):Nat->Bool
 |0=>F'
 |k+1=>jU l k||aV (l.take k) (l.getD k Hold.zero).t
def cP(l:List Hold):Bool:=jU l l.length
theorem bE4{l:List Hold}{j:Nat}(h:jU l k=A')(hj:k<=j):jU l j=A':=by
 induction j with
 |zero=>
  obtain rfl:k=0:=by omega
  exact h
 |succ j ih=>
  by_cases hk:k=j+1
  .subst hk;exact h
  .unfold jU;rw[ih (by omega)];rfl
theorem aP3{l:List Hold}(hk:k<l.length)(h:aV (l.take k) (l.getD k Hold.zero).t=A'):cP l=A':=by refine bE4 (k:=k+1) ?_ hk;unfold jU;rw[h];simp
theorem aQ1{l:List Hold}(h1:jU l k=F')(h:aV (l.take k) (l.getD k Hold.zero).t=F'):jU l (k+1)=F':=by unfold jU;rw[h,h1];rfl
theorem bE5(l:List Hold)(k:Nat)(hk:k<=l.length):jU l k=F'↔(l.take k).Pairwise fun a b=>a.t≠b.t:=by
 induction k with
 |zero=>simp[jU]
 |succ k ih=>rw[bT l Hold.zero k (by omega),List.pairwise_append];unfold jU;rw[Bool.or_eq_false_iff,ih (by omega)];unfold aV;rw[List.any_eq_false];simp
theorem fX(l:List Hold):cP l=F'↔l.Pairwise fun a b=>a.t≠b.t:=by have:=bE5 l l.length z';rwa[List.take_length]at this
def cY(hs:List Hold):List Hold->Nat
 |[]=>0
 |q::qs=>if aV hs q.t then cY hs qs+1 else 0
theorem uJ(hs qs:List Hold):cY hs qs<=qs.length:=by
 induction qs with
 |nil=>exact z'
 |cons q qs ih=>unfold cY;split<;>simp<;>omega
theorem sK(hs qs:List Hold)(hk:k<cY hs qs):aV hs (qs.getD k Hold.zero).t=A':=by
 induction qs generalizing k with
 |nil=>simp[cY]at hk
 |cons q qs ih=>
  unfold cY at hk;split at hk
  .cases k with
   |zero=>simpa using ‹_›
   |succ k=>simpa using ih (by omega)
  .omega
theorem aY9(hs qs:List Hold)(hk:cY hs qs<qs.length):aV hs (qs.getD (cY hs qs) Hold.zero).t=F':=by
 induction qs with
 |nil=>simp at hk
 |cons q qs ih=>
  unfold cY at hk⊢;split
  .next h=>rw[if_pos h]at hk;simpa using ih (by simpa using hk)
  .next h=>simpa using h
theorem xY{hs qs:List Hold}(hk:k<=qs.length)(h1:∀j,j<k->aV hs (qs.getD j Hold.zero).t=A')(h2:k<qs.length->aV hs (qs.getD k Hold.zero).t=F'):cY hs qs=k:=by
 rcases Nat.lt_trichotomy (cY hs qs) k with h|h|h
 .have:=h1 _ h;rw[aY9 hs qs (by omega)]at this;cases this
 .exact h
 .have:=sK hs qs h;have hl:=uJ hs qs;rw[h2 (by omega)]at this;cases this
def lY(hs qs:List Hold)(i:Nat):Bool:=
 if aV hs (qs.getD i Hold.zero).t then decide (i<cY hs qs)&&((qs.getD i Hold.zero).m !=bQ hs (qs.getD i Hold.zero).t&&eB (qs.getD i Hold.zero).m (bQ hs (qs.getD i Hold.zero).t))else A'
def qOk(hs qs:List Hold):Bool:=(List.range qs.length).all (lY hs qs)
theorem lZ{p:Nat->Bool}:(List.range n).all p=A'↔∀i,i<n->p i=A':=by rw[List.all_eq_true];simp
theorem uE{hs qs:List Hold}{i:Nat}(hi:i<qs.length)(h:lY hs qs i=F'):qOk hs qs=F':=by
 cases hh:qOk hs qs
 .rfl
 .unfold qOk at hh;rw[lZ]at hh;have:=hh i hi;rw[h]at this;cases this
theorem xB{hs qs:List Hold}(h:∀i,i<qs.length->lY hs qs i=A'):qOk hs qs=A':=lZ.2 h
theorem cS2{hs qs:List Hold}(h:aV hs (qs.getD k Hold.zero).t=F'):cY hs qs<=k:=by
 rcases Nat.lt_or_ge k (cY hs qs)with h1|h1
 .rw[sK hs qs h1]at h;cases h
 .exact h1
theorem cH5{hs qs:List Hold}(hk:k<qs.length)(h:aV hs (qs.getD k Hold.zero).t=A')(hc:k<=cY hs qs):k<cY hs qs:=by
 rcases Nat.lt_or_ge k (cY hs qs)with h1|h1
 .exact h1
 .obtain rfl:k=cY hs qs:=by omega
  rw[aY9 hs qs hk]at h;cases h
theorem xC{hs qs:List Hold}(h:aV hs (qs.getD k Hold.zero).t=F'):lY hs qs k=A':=by unfold lY;rw[h];rfl
theorem vV{hs qs:List Hold}(h:aV hs (qs.getD k Hold.zero).t=A')(hc:cY hs qs<=k):lY hs qs k=F':=by unfold lY;rw[h];simp;intro h2;omega
theorem aE5{hs qs:List Hold}(h:aV hs (qs.getD k Hold.zero).t=A')(he:(qs.getD k Hold.zero).m=bQ hs (qs.getD k Hold.zero).t):lY hs qs k=F':=by unfold lY;rw[h,<-he];simp
theorem aN7{hs qs:List Hold}(h:aV hs (qs.getD k Hold.zero).t=A')(he:eB (qs.getD k Hold.zero).m (bQ hs (qs.getD k Hold.zero).t)=F'):lY hs qs k=F':=by unfold lY;rw[h,he];simp
theorem aE4{hs qs:List Hold}(hc:k<cY hs qs)(h1:(qs.getD k Hold.zero).m≠bQ hs (qs.getD k Hold.zero).t)(he:eB (qs.getD k Hold.zero).m (bQ hs (qs.getD k Hold.zero).t)=A'):lY hs qs k=A':=by
 unfold lY;rw[sK hs qs hc,he];have h2:((qs.getD k Hold.zero).m !=bQ hs (qs.getD k Hold.zero).t)=A':=by simpa using h1
 rw[h2];simp[hc]
theorem kS{p:Nat->Bool}(h:∀j,j<k->p j=A')(hk:p k=A'):∀j,j<k+1->p j=A':=by
 intro j hj;by_cases e:j=k
 .subst e;exact hk
 .exact h j (by omega)
theorem qJ{p:Nat->Bool}(h:∀j,j<k->p j=F')(hk:p k=F'):∀j,j<k+1->p j=F':=by
 intro j hj;by_cases e:j=k
 .subst e;exact hk
 .exact h j (by omega)
def eC(hs qs:List Hold):Bool:=match qs with
 |[]=>F'
 |q::_=>(aV hs q.t||decide (hs.length<20))&&eJ hs q.t q.m
theorem jT{hs qs:List Hold}(h:0<qs.length):eC hs qs=((aV hs (qs.getD 0 Hold.zero).t||decide (hs.length<20))&&eJ hs (qs.getD 0 Hold.zero).t (qs.getD 0 Hold.zero).m):=by
 cases qs with
 |nil=>simp at h
 |cons q qs=>rfl
def dF(l:Lock):Int:=
 if 20<l.hs.length\/20<l.qs.length then 2 else
 if !(aZ l.hs&&aZ l.qs)then 3 else
 if cP l.hs||cP l.qs then 7 else
 if(l.hs.length+l.qs.length==0)||!iQ l.hs||!qOk l.hs l.qs||eC l.hs l.qs then 1 else 0
def aH(ls:List Lock)(k:Nat):Lock:=ls.getD k Lock.zero
def jC(ls:List Lock)(k:Nat):Int:=
 if !inB (aH ls k).r 0 100 then 3 else
 if 0<k/\(aH ls k).r<=(aH ls (k-1)).r then 1 else dF (aH ls k)
def cH(ls:List Lock):List Hold:=ls.flatMap (·.qs)
def oJ(ls:List Lock):Nat->Nat->Int
 |0,_=>if cP (cH ls)then 10 else 0
 |f+1,k=>if jC ls k !=0 then jC ls k else oJ ls f (k+1)
def aS(ls:List Lock):Int:=oJ ls ls.length 0
theorem bS7{ls:List Lock}(h:k=n):oJ ls (n-k) k=if cP (cH ls)then 10 else 0:=by subst h;rw[Nat.sub_self];rfl
theorem bS6{ls:List Lock}(h:k<n)(hb:(jC ls k !=0)=A'):oJ ls (n-k) k=jC ls k:=by
 obtain⟨f,hf⟩:∃f,n-k=f+1:=⟨n-k-1,by omega⟩
 rw[hf,oJ,if_pos hb]
theorem bF6{ls:List Lock}(h:k<n)(hb:(jC ls k !=0)=F'):oJ ls (n-k) k=oJ ls (n-(k+1)) (k+1):=by
 obtain⟨f,hf⟩:∃f,n-k=f+1:=⟨n-k-1,by omega⟩
 rw[hf,oJ,if_neg (by simp[hb]),show n-(k+1)=f by omega]
theorem aM8{ls:List Lock}(h:inB (aH ls k).r 0 100=F'):jC ls k=3:=by unfold jC;rw[h];rfl
theorem aM7{ls:List Lock}(h:inB (aH ls k).r 0 100=A')(h0:0<k)(h1:(aH ls k).r<=(aH ls (k-1)).r):jC ls k=1:=by unfold jC;rw[h,if_neg (by simp),if_pos ⟨h0,h1⟩]
theorem xZ{ls:List Lock}(h:inB (aH ls k).r 0 100=A')(h1:¬(0<k/\(aH ls k).r<=(aH ls (k-1)).r)):jC ls k=dF (aH ls k):=by unfold jC;rw[h,if_neg (by simp),if_neg h1]
theorem wD{l:Lock}(h:20<l.hs.length\/20<l.qs.length):dF l=2:=by unfold dF;rw[if_pos h]
theorem wE{l:Lock}(h:¬(20<l.hs.length\/20<l.qs.length))(h2:(aZ l.hs&&aZ l.qs)=F'):dF l=3:=by unfold dF;rw[if_neg h,h2];rfl
theorem tS{l:Lock}(h:¬(20<l.hs.length\/20<l.qs.length))(h2:(aZ l.hs&&aZ l.qs)=A')(h3:(cP l.hs||cP l.qs)=A'):dF l=7:=by unfold dF;rw[if_neg h,h2,if_neg (by simp),if_pos h3]
theorem aM9{l:Lock}(h:¬(20<l.hs.length\/20<l.qs.length))(h2:(aZ l.hs&&aZ l.qs)=A')(h3:(cP l.hs||cP l.qs)=F')
  (h4:((l.hs.length+l.qs.length==0)||!iQ l.hs||!qOk l.hs l.qs||eC l.hs l.qs)=A'):dF l=1:=by
 unfold dF;rw[if_neg h,h2,if_neg (by simp),h3,if_neg (by simp),if_pos h4]
theorem bL7{l:Lock}(h:¬(20<l.hs.length\/20<l.qs.length))(h2:(aZ l.hs&&aZ l.qs)=A')(h3:(cP l.hs||cP l.qs)=F')
  (h4:((l.hs.length+l.qs.length==0)||!iQ l.hs||!qOk l.hs l.qs||eC l.hs l.qs)=F'):dF l=0:=by
 unfold dF;rw[if_neg h,h2,if_neg (by simp),h3,if_neg (by simp),h4,if_neg (by simp)]
theorem fN{l:Lock}(h:dF l=0):l.hs.length<=20/\l.qs.length<=20/\aZ l.hs=A'/\aZ l.qs=A'/\cP l.hs=F'/\cP l.qs=F'/\0<l.hs.length+l.qs.length/\iQ l.hs=A'/\qOk l.hs l.qs=A'/\eC l.hs l.qs=F':=by
 by_cases h1:20<l.hs.length\/20<l.qs.length
 .rw[wD h1]at h;cases h
 cases h2:(aZ l.hs&&aZ l.qs)
 .rw[wE h1 h2]at h;cases h
 cases h3:(cP l.hs||cP l.qs)
 .cases h4:((l.hs.length+l.qs.length==0)||!iQ l.hs||!qOk l.hs l.qs||eC l.hs l.qs)
  .simp at h1 h2 h3 h4;obtain⟨⟨⟨h5,h6⟩,h7⟩,h8⟩:=h4;refine⟨by omega,by omega,h2.1,h2.2,h3.1,h3.2,?_,h6,h7,h8⟩;rcases Nat.eq_zero_or_pos l.hs.length with h0|h0
   .have:=h5 (List.length_eq_zero_iff.1 h0);have:l.qs.length≠0:=fun e=>this (List.length_eq_zero_iff.1 e);omega
   .omega
  .rw[aM9 h1 h2 h3 h4]at h;cases h
 .rw[tS h1 h2 h3]at h;cases h
theorem bZ7{ls:List Lock}(n k:Nat)(h:oJ ls n k=0):(∀i,k<=i->i<k+n->jC ls i=0)/\cP (cH ls)=F':=by
 induction n generalizing k with
 |zero=>
  refine⟨fun i h1 h2=>by omega,?_⟩;unfold oJ at h;cases ht:cP (cH ls)
  .rfl
  .rw[ht]at h;cases h
 |succ n ih=>
  unfold oJ at h;split at h
  .next hb=>simp[h]at hb
  .next hb=>
   obtain⟨h1,h2⟩:=ih _ h;refine⟨fun i hi hj=>?_,h2⟩;by_cases hik:i=k
   .subst hik;simpa using hb
   .exact h1 i (by omega) (by omega)
theorem eL{ls:List Lock}(h:aS ls=0):(∀i,i<ls.length->jC ls i=0)/\cP (cH ls)=F':=by obtain⟨h1,h2⟩:=bZ7 _ _ h;exact⟨fun i hi=>h1 i (Nat.zero_le _) (by omega),h2⟩
theorem iI{ls:List Lock}(h:jC ls k=0):0<=(aH ls k).r/\(aH ls k).r<=100/\(0<k->(aH ls (k-1)).r<(aH ls k).r)/\dF (aH ls k)=0:=by
 cases h1:inB (aH ls k).r 0 100
 .rw[aM8 h1]at h;cases h
 by_cases h2:0<k/\(aH ls k).r<=(aH ls (k-1)).r
 .rw[aM7 h1 h2.1 h2.2]at h;cases h
 .rw[xZ h1 h2]at h;unfold inB at h1;simp at h1;refine⟨h1.1,h1.2,fun h0=>?_,h⟩;rcases Int.lt_or_le (aH ls (k-1)).r (aH ls k).r with h3|h3
  .exact h3
  .exact absurd ⟨h0,h3⟩ h2
def gH(ls:List Lock)(i:Nat):Bool:=(aH ls i).qs.any fun q=>(List.range i).any fun j=>aV (aH ls j).qs q.t
theorem aU0{ls:List Lock}(h:∀i,i<ls.length->cP (aH ls i).qs=F'):cP (cH ls)=(List.range ls.length).any (gH ls):=by
 have key:cP (cH ls)=F'↔(List.range ls.length).any (gH ls)=F':=by
  rw[fX];unfold cH;rw[List.pairwise_flatMap];have hA:(∀a∈ls,a.qs.Pairwise fun a b=>a.t≠b.t):=by intro a ha;obtain⟨i,hi,rfl⟩:=List.getElem_of_mem ha;have:=h i hi;rw[fX]at this;simpa[aH,List.getD,hi]using this
  rw[List.any_eq_false,List.pairwise_iff_getElem];constructor
  .rintro⟨_,hp⟩ i hi;simp only[List.mem_range]at hi;unfold gH aV;simp only[List.any_eq_true,not_exists,not_and,List.mem_range];intro q hq j hj x hx hxq;have:=hp j i (by omega) hi hj x (by simpa[aH,List.getD,show j<ls.length by omega]using hx) q (by simpa[aH,List.getD,hi]using hq);simp at hxq;exact this hxq
  .intro hc;refine⟨hA,fun i j hi hj hij x hx y hy he=>?_⟩;have:=hc j (by simpa using hj);apply this;unfold gH aV;simp only[List.any_eq_true,List.mem_range];exact⟨y,by simpa[aH,List.getD,hj]using hy,i,hij,x,by simpa[aH,List.getD,hi]using hx,by simpa using he⟩
 cases h1:cP (cH ls)<;>cases h2:(List.range ls.length).any (gH ls)<;>simp_all
end Ch
theorem aO9(a b:Int)(w:World)(ha:Ch.isM a=A')(hb:Ch.isM b=A')(hab:¬b<a):
  Calls prog 205 #[I J a,I J b] w fun e w'=>e=R' (X (Ch.tab rA a b))/\w'=w:=by
 rcases dE ha with rfl|rfl|rfl|rfl|rfl|rfl;all_goals rcases dE hb with rfl|rfl|rfl|rfl|rfl|rfl
 all_goals first|(exfalso;revert hab;decide)|skip
 all_goals
  clear ha hb hab;go_enter func205,ntmps205
  go_wp2_with fail
  go_ret;exact⟨rfl,rfl⟩
theorem bJ1(a b:Int)(ha:Ch.isM a=A')(hb:Ch.isM b=A'):Ch.tab rA a b=Ch.tab rA b a:=by
 rcases dE ha with rfl|rfl|rfl|rfl|rfl|rfl;all_goals rcases dE hb with rfl|rfl|rfl|rfl|rfl|rfl
 all_goals rfl
theorem aV8(a b:Int)(w:World)(ha:Ch.isM a=A')(hb:Ch.isM b=A'):
  Calls prog 205 #[I J a,I J b] w fun e w'=>e=R' (X (Ch.tab rA a b))/\w'=w:=by
 by_cases hab:b<a
 .rw[bJ1 a b ha hb];have BI:=fun w'=>aO9 b a w' hb ha (by omega);obtain⟨t,ht⟩:∃t,Hid (Ch.tab rA b a=t):=⟨_,rfl⟩
  rw[ht.out]at BI⊢;clear ha hb ht;go_enter func205,ntmps205
  go_wp2_with(go_at_call 205;refine(BI _).mono ?_;rintro e w'⟨rfl,rfl⟩)
  go_ret;exact⟨rfl,rfl⟩
 .exact aO9 a b w ha hb hab
theorem rQ(a b:Int)(w:World)(ha:Ch.isM a=A')(hb:Ch.isM b=A'):
  Calls prog 200 #[I J a,I J b] w fun e w'=>e=R' (X (Ch.tab oX a b))/\w'=w:=by
 rcases dE ha with rfl|rfl|rfl|rfl|rfl|rfl;all_goals rcases dE hb with rfl|rfl|rfl|rfl|rfl|rfl
 all_goals
  clear ha hb;go_enter func200,ntmps200
  go_wp2_with fail
  go_ret;exact⟨rfl,rfl⟩
def cU0(a b:Int)(k:Nat):Bool:=Ch.tab oX k a&&Ch.tab oX k b
theorem cI4(h:k<6):Ch.isM k=A':=by simp[Ch.isM,inB];omega
theorem aD2(ha:Ch.isM a=A')(hb:Ch.isM b=A'):Ch.isM (eN a b)=A':=by
 rcases dE ha with rfl|rfl|rfl|rfl|rfl|rfl;all_goals rcases dE hb with rfl|rfl|rfl|rfl|rfl|rfl
 all_goals rfl
theorem aR5(ha:Ch.isM a=A')(hb:Ch.isM b=A')(hk:k<6)(hj:(k:Int)<=eN a b):cU0 a b k=decide ((k:Int)=eN a b):=by
 have:k=0\/k=1\/k=2\/k=3\/k=4\/k=5:=by omega
 rcases dE ha with rfl|rfl|rfl|rfl|rfl|rfl;all_goals rcases dE hb with rfl|rfl|rfl|rfl|rfl|rfl
 all_goals rcases this with rfl|rfl|rfl|rfl|rfl|rfl
 all_goals first|rfl|(exfalso;revert hj;decide)
theorem bY9(a b:Int)(w:World)(ha:Ch.isM a=A')(hb:Ch.isM b=A'):
  Calls prog 201 #[I J a,I J b] w fun e w'=>e=R' (I J (eN a b))/\w'=w:=by
 have HF:Hid (∀k:Nat,k<6->(k:Int)<=eN a b->(Ch.tab oX k a&&Ch.tab oX k b)=decide ((k:Int)=eN a b)):=fun k hk hj=>aR5 ha hb hk hj;obtain⟨j0,j1⟩:=cS8 (aD2 ha hb);generalize eN a b=jj at*;obtain⟨j,rfl⟩:=Int.eq_ofNat_of_zero_le j0;go_enter func201,ntmps201
 go_wp2_with fail
 go_loop [5] (fun i=>∃k:Nat,k<=j/\i=I J k) (fun i=>6-(intOf i).toNat)
 case atStart=>exact⟨0,Nat.zero_le _,rfl⟩
 case round=>
  obtain⟨k,hk,rfl⟩:=hrel;by_cases hlt:k<5
  .have hki:(k:Int)<5:=by omega
   have HA:=fun W=>rQ k a W (cI4 (by omega)) ha;have HB:=fun W=>rQ k b W (cI4 (by omega)) hb;have hV:=HF.out k (by omega) (by omega);clear HF ha hb;generalize Ch.tab oX k a=p at*;generalize Ch.tab oX k b=q at*;cases p
   .have hkj:k≠j:=by intro h;subst h;simp at hV
    clear hV;go_wp2_with(go_at_call 200;(first|refine(HA _).mono ?_|refine(HB _).mono ?_);rintro e w'⟨rfl,rfl⟩)
    go_round
    case rel=>exact⟨k+1,by omega,by go_num⟩
    case measure=>simp[intOf];omega
   .cases q
    .have hkj:k≠j:=by intro h;subst h;simp at hV
     clear hV;go_wp2_with fail
     refine(HA _).mono ?_;rintro e w'⟨rfl,rfl⟩;go_wp2_with fail
     refine(HB _).mono ?_;rintro e w'⟨rfl,rfl⟩;go_wp2_with fail
     go_round
     case rel=>exact⟨k+1,by omega,by go_num⟩
     case measure=>simp[intOf];omega
    .obtain rfl:k=j:=by
      have:(k:Int)=j:=by simpa using hV
      omega
     clear hV;go_wp2_with fail
     refine(HA _).mono ?_;rintro e w'⟨rfl,rfl⟩;go_wp2_with fail
     refine(HB _).mono ?_;rintro e w'⟨rfl,rfl⟩;go_wp2_with fail
     go_ret;exact⟨rfl,rfl⟩
  .obtain rfl:k=j:=by omega
   obtain rfl:k=5:=by omega
   go_wp2_with fail
   go_ret;exact⟨rfl,rfl⟩
def jD(es:List (Int×Int))(f:Int->Int)(x w:Int):Int:=es.foldl (fun b e=>if e.1=x/\f e.2=w/\(b=0\/e.2<b)then e.2 else b) 0
def oF(es:List (Int×Int))(f:Int->Int)(t:Int):Int:=es.foldl (fun s e=>if e.1=t/\0<=f e.2/\(s<0\/f e.2<s)then f e.2 else s) (-1)
def fK(es:List (Int×Int))(f:Int->Int):Nat->Int->List Int
 |0,_=>[]
 |k+1,x=>jD es f x ((k:Int)+1)::fK es f k (jD es f x ((k:Int)+1))
def fF(es:List (Int×Int))(t:Int):List Int:=
 if oF es (cZ es t es.length) t<0 then []else t::fK es (cZ es t es.length) (oF es (cZ es t es.length) t).toNat t
def cK6(par:Nat->Nat):Nat->Nat->Nat
 |0,p=>p
 |k+1,p=>par (cK6 par k p)
def dH3(s:Rch)(p:Nat):List Int:=(List.range (s.lev p+1)).map (fun i=>s.v (cK6 s.par (s.lev p-i) p))
namespace Ch
def fP(ls:List (List Row))(key:Int):Nat->Nat
 |0=>0
 |k+1=>if gD (ls.getD k [])<=key then k else fP ls key k
theorem cV9(ls:List (List Row))(key:Int)(k:Nat):fP ls key k<=k:=by
 induction k with
 |zero=>exact z'
 |succ k ih=>simp only[fP];split<;>omega
theorem aL0(h:gD (ls.getD k [])<=key):fP ls key (k+1)=k:=by rw[fP,if_pos h]
theorem aU5(h:¬gD (ls.getD k [])<=key):fP ls key (k+1)=fP ls key k:=by rw[fP,if_neg h]
def aB4(ls:List (List Row))(key:Int):Int:=if aL ls !=0 then aL ls else if inB key 0 99 then 0 else 3
theorem bF2(h:aB4 ls key=0):aL ls=0/\inB key 0 99=A':=by
 unfold aB4 at h;by_cases hf:(aL ls !=0)=A'
 .rw[if_pos hf]at h;simp[h]at hf
 .rw[if_neg hf]at h;by_cases hb:inB key 0 99=A'
  .exact⟨by simpa using hf,hb⟩
  .rw[if_neg hb]at h;omega
end Ch
namespace Ch
theorem vT{k:Int}(h:¬low p k=A'):∀q,p=Y q->q<k:=by intro q hq;subst hq;simp[low]at h;omega
theorem dE5{rs:List Row}(h:iO p rs=0):(∀r∈rs,∀q,p=Y q->q<r.k)/\rs.Pairwise (fun a b=>a.k<b.k):=by
 induction rs generalizing p with
 |nil=>exact⟨fun r hr=>by simp at hr,List.Pairwise.nil⟩
 |cons q rs ih=>
  rw[fY]at h;by_cases hq:(q.fault !=0)=A'
  .rw[if_pos hq]at h;simp[h]at hq
  .rw[if_neg hq]at h;by_cases hl:low p q.k=A'
   .rw[if_pos hl]at h;omega
   .rw[if_neg hl]at h;have⟨h1,h2⟩:=ih h;refine⟨?_,List.Pairwise.cons (fun r hr=>h1 r hr q.k rfl) h2⟩;intro r hr z hz;have h0:=vT hl z hz;rcases List.mem_cons.1 hr with rfl|hr
    .exact h0
    .have:=h1 r hr q.k rfl;omega
theorem dD9(h:cI l=0):l.Pairwise (fun a b=>a.k<b.k):=by
 unfold cI at h;by_cases h4:4<l.length
 .rw[if_pos h4]at h;omega
 .rw[if_neg h4]at h;exact(dE5 h).2
theorem xU(h:l.Pairwise (fun a b=>a.k<b.k)):∀r∈l,gD l<=r.k:=by
 cases l with
 |nil=>intro r hr;simp at hr
 |cons q l=>
  intro r hr;have e:gD (q::l)=q.k:=rfl;rw[e];rcases List.mem_cons.1 hr with rfl|hr
  .omega
  .have:=(List.pairwise_cons.1 h).1 r hr;omega
theorem aW8(h:l.Pairwise (fun a b=>a.k<b.k)):∀r∈l,r.k<=mZ l:=by
 intro r hr;obtain⟨j,hj,rfl⟩:=List.getElem_of_mem hr;have hl:l.length-1<l.length:=by omega
 have e:mZ l=(l[l.length-1]).k:=by simp[mZ,List.getD,hl]
 rw[e];by_cases hjl:j=l.length-1
 .subst hjl;omega
 .have:=(List.pairwise_iff_getElem.1 h) j (l.length-1) hj hl (by omega);omega
theorem cP0(h:sU p ls=0):(∀l∈ls,∀r∈l,∀q,p=Y q->q<r.k)/\(∀l∈ls,l.Pairwise (fun a b=>a.k<b.k))/\ls.Pairwise (fun a b=>∀x∈a,∀y∈b,x.k<y.k):=by
 induction ls generalizing p with
 |nil=>exact⟨fun r hr=>by simp at hr,fun r hr=>by simp at hr,List.Pairwise.nil⟩
 |cons q ls ih=>
  rw[jY]at h;by_cases h0:q.length=0
  .rw[if_pos h0]at h;omega
  .rw[if_neg h0]at h;by_cases hq:(cI q !=0)=A'
   .rw[if_pos hq]at h;simp[h]at hq
   .rw[if_neg hq]at h;by_cases hl:low p (gD q)=A'
    .rw[if_pos hl]at h;omega
    .rw[if_neg hl]at h;have⟨h1,h2,h3⟩:=ih h;have hup:=dD9 (l:=q) (by simpa using hq);have hfi:=xU hup;have hla:=aW8 hup;refine⟨?_,?_,List.Pairwise.cons ?_ h3⟩
     .intro l hm r hr z hz;have hz0:=vT hl z hz;rcases List.mem_cons.1 hm with rfl|hm
      .have:=hfi r hr;omega
      .have:=h1 l hm r hr (mZ q) rfl;obtain⟨x,hx⟩:=List.exists_mem_of_length_pos (l:=q) (by omega);have h5:=hfi x hx;have h6:=hla x hx;omega
     .intro l hm;rcases List.mem_cons.1 hm with rfl|hm
      .exact hup
      .exact h2 l hm
     .intro l hm x hx y hy;have:=h1 l hm y hy (mZ q) rfl;have:=hla x hx;omega
theorem dI9(h:aL ls=0):(∀l∈ls,l.Pairwise (fun a b=>a.k<b.k))/\ls.Pairwise (fun a b=>∀x∈a,∀y∈b,x.k<y.k):=by
 unfold aL at h;by_cases h6:60<ls.length
 .rw[if_pos h6]at h;omega
 .rw[if_neg h6]at h;exact(cP0 h).2
theorem lB(l:List α)(d:α)(i:Nat)(h:i<l.length):l.getD i d=l[i]:=by simp[List.getD,h]
def iH(ls:List (List Row))(key:Int):Option Row:=ls.flatten.find? (fun r=>r.k==key)
end Ch
namespace Ch
def iA(rs:List Rec)(k:Nat):Int:=((rs.take k).map Rec.fault).foldl (fun c f=>if c !=0 then c else f) 0
def eR(rs:List Rec):Int:=if 800<rs.length then 2 else iA rs rs.length
theorem qC(rs:List Rec)(k:Nat)(h:k<rs.length):rs.take (k+1)=rs.take k++[rs.getD k Rec.zero]:=by rw[List.take_add_one,List.getElem?_eq_getElem h];simp[List.getD,h]
theorem rV(hk:k<rs.length)(h:iA rs k=0):iA rs (k+1)=(rs.getD k Rec.zero).fault:=by unfold iA at*;rw[qC rs k hk,List.map_append,List.foldl_append,h];rfl
theorem bJ4(l:List Int)(c:Int)(h:(c !=0)=A'):l.foldl (fun c f=>if c !=0 then c else f) c=c:=by
 induction l with
 |nil=>rfl
 |cons f l ih=>simp only[List.foldl_cons];rw[if_pos h];exact ih
theorem qL(h:iA rs (k+1)=c)(hc:(c !=0)=A'):iA rs rs.length=c:=by
 unfold iA at*;rw[List.take_length];conv=>lhs;rw[<-List.take_append_drop (k+1) rs]
 rw[List.map_append,List.foldl_append,h];exact bJ4 _ _ hc
theorem tU(h:800<rs.length):eR rs=2:=if_pos h
theorem wG(h:¬800<rs.length):eR rs=iA rs rs.length:=if_neg h
theorem bP0(h:iA rs rs.length=0):∀k,k<rs.length->(rs.getD k Rec.zero).fault=0:=by
 intro k hk;have key:∀m,m<=rs.length->iA rs m=0:=by
  intro m hm;rcases Int.decEq (iA rs m) 0 with h0|h0
  .exfalso;cases m with
   |zero=>exact h0 rfl
   |succ m=>have:=qL (rs:=rs) (k:=m) rfl (by simpa using h0);rw[h]at this;exact h0 this.symm
  .exact h0
 rw[<-rV hk (key k (by omega))];exact key (k+1) (by omega)
theorem pI(h:eR rs=0):rs.length<=800/\∀k,k<rs.length->(rs.getD k Rec.zero).fault=0:=by
 by_cases h8:800<rs.length
 .rw[tU h8]at h;omega
 .rw[wG h8]at h;exact⟨by omega,bP0 h⟩
def eP(rs:List Rec)(kd:Int):List Int:=rs.foldl (fun l r=>if r.kd==kd&&!l.contains r.tx then l++[r.tx]else l) []
theorem xO(hk:k<rs.length)(kd:Int):eP (rs.take (k+1)) kd=if(rs.getD k Rec.zero).kd==kd&&!(eP (rs.take k) kd).contains (rs.getD k Rec.zero).tx then eP (rs.take k) kd++[(rs.getD k Rec.zero).tx]else eP (rs.take k) kd:=by unfold eP;rw[qC rs k hk,List.foldl_append];rfl
theorem aD4(hk:k<rs.length)(h1:((rs.getD k Rec.zero).kd==kd)=A')(h2:(eP (rs.take k) kd).contains (rs.getD k Rec.zero).tx=F'):eP (rs.take (k+1)) kd=eP (rs.take k) kd++[(rs.getD k Rec.zero).tx]:=by rw[xO hk,h1,h2];rfl
theorem aD3(hk:k<rs.length)(h2:(eP (rs.take k) kd).contains (rs.getD k Rec.zero).tx=A'):eP (rs.take (k+1)) kd=eP (rs.take k) kd:=by rw[xO hk,h2];simp
theorem aM3(hk:k<rs.length)(h1:((rs.getD k Rec.zero).kd==kd)=F'):eP (rs.take (k+1)) kd=eP (rs.take k) kd:=by rw[xO hk,h1];simp
def zZ(rs:List Rec):Int×List Int:=if eR rs !=0 then(eR rs,[])else(0,eP rs 4)
theorem cH4(h:eR rs=c)(hc:(c !=0)=A'):zZ rs=(c,[]):=by unfold zZ;rw[h,if_pos hc]
theorem aP9(h:eR rs=0):zZ rs=(0,eP rs 4):=by unfold zZ;rw[h];rfl
end Ch
theorem sA{l:List Int}(h:4000<s.length+l.length):dW s l=2:=by unfold dW;rw[if_pos h]
theorem sB{l:List Int}(h:¬4000<s.length+l.length)(h2:(fJ s==s.length)=F'\/(fJ l==l.length)=F'):dW s l=5:=by
 unfold dW;rw[if_neg h,if_pos];rcases h2 with h2|h2
 .left;simpa using h2
 .right;simpa using h2
theorem aP5{l:List Int}(h:¬4000<s.length+l.length)(h1:(fJ s==s.length)=A')(h2:(fJ l==l.length)=A'):dW s l=0:=by unfold dW;rw[if_neg h,if_neg];simp at h1 h2;omega
namespace Ch
def dQ(key:Int)(r:Row):Bool:=r.k !=key
def aG0(l:List Row):Bool:=decide (0<l.length)
def eS(ls:List (List Row))(key:Int):List (List Row):=(ls.map (List.filter (dQ key))).filter aG0
theorem aK5{p:α->Bool}{l:List α}(h:∀x∈l,p x=A'):l.filter p=l:=List.filter_eq_self.2 h
theorem dA2(l:List α)(d:α)(i:Nat)(h:i<l.length):l=l.take i++l.getD i d::l.drop (i+1):=by rw[lB l d i h,<-List.drop_eq_getElem_cons h,List.take_append_drop]
theorem bS1(ls:List (List Row))(key:Int)(k:Nat)(h:k<ls.length):eS (ls.take (k+1)) key=eS (ls.take k) key++(if aG0 ((ls.getD k []).filter (dQ key))then [(ls.getD k []).filter (dQ key)]else []):=by rw[bT ls [] k h];unfold eS;rw[List.map_append,List.filter_append];simp only[List.map_cons,List.map_nil,List.filter_cons,List.filter_nil]
end Ch
namespace Ch
theorem aE8(l:List Row)(p:Option Int):iO p l=0↔(∀r∈l,r.fault=0)/\l.Pairwise (fun a b=>a.k<b.k)/\∀q,p=Y q->∀r∈l,q<r.k:=by
 induction l generalizing p with
 |nil=>simp[iO]
 |cons x l ih=>
  rw[fY];by_cases hx:(x.fault !=0)=A'
  .rw[if_pos hx];refine⟨fun h=>by simp[h]at hx,fun h=>h.1 x List.mem_cons_self⟩
  .rw[if_neg hx];have hx0:x.fault=0:=by simpa using hx
   by_cases hl:low p x.k=A'
   .rw[if_pos hl];refine⟨fun h=>by omega,fun h=>?_⟩;cases p with
    |none=>simp[low]at hl
    |some q=>have:=h.2.2 q rfl x List.mem_cons_self;simp[low]at hl;omega
   .rw[if_neg hl,ih];have hl':=vT hl;constructor
    .rintro⟨h1,h2,h3⟩;refine⟨fun r hr=>?_,List.Pairwise.cons (fun r hr=>h3 x.k rfl r hr) h2,fun q hq r hr=>?_⟩
     .rcases List.mem_cons.1 hr with rfl|hr
      .exact hx0
      .exact h1 r hr
     .have h4:=hl' q hq;rcases List.mem_cons.1 hr with rfl|hr
      .exact h4
      .have:=h3 x.k rfl r hr;omega
    .rintro⟨h1,h2,h3⟩;obtain⟨h4,h5⟩:=List.pairwise_cons.1 h2;refine⟨fun r hr=>h1 r (List.mem_cons_of_mem _ hr),h5,fun q hq r hr=>?_⟩;cases hq;exact h4 r hr
theorem bN6(l:List Row):cI l=0↔l.length<=4/\(∀r∈l,r.fault=0)/\l.Pairwise (fun a b=>a.k<b.k):=by
 unfold cI;by_cases h:4<l.length
 .rw[if_pos h];exact⟨fun h=>by omega,fun h=>by omega⟩
 .rw[if_neg h];show iO O l=0↔_;rw[aE8];exact⟨fun h'=>⟨by omega,h'.1,h'.2.1⟩,fun h'=>⟨h'.2.1,h'.2.2,fun q hq=>by cases hq⟩⟩
theorem aU4(h:l.length≠0):∃r∈l,r.k=gD l:=by refine⟨l.getD 0 Row.zero,?_,rfl⟩;rw[lB _ _ 0 (by omega)];exact List.getElem_mem _
theorem cX1(h:l.length≠0):∃r∈l,r.k=mZ l:=by refine⟨l.getD (l.length-1) Row.zero,?_,rfl⟩;rw[lB _ _ (l.length-1) (by omega)];exact List.getElem_mem _
theorem dG5(ls:List (List Row))(p:Option Int):sU p ls=0↔(∀l∈ls,l.length≠0/\l.length<=4)/\(∀r∈ls.flatten,r.fault=0)/\ls.flatten.Pairwise (fun a b=>a.k<b.k)/\∀q,p=Y q->∀r∈ls.flatten,q<r.k:=by
 induction ls generalizing p with
 |nil=>simp[sU]
 |cons l ls ih=>
  rw[jY];by_cases h0:l.length=0
  .rw[if_pos h0];exact⟨fun h=>by omega,fun h=>absurd h0 (h.1 l List.mem_cons_self).1⟩
  .rw[if_neg h0];obtain⟨x,hx,ex⟩:=aU4 h0;obtain⟨y,hy,ey⟩:=cX1 h0;by_cases hp:(cI l !=0)=A'
   .rw[if_pos hp];refine⟨fun h=>by simp[h]at hp,fun h=>?_⟩;rw[List.flatten_cons]at h;refine(bN6 l).2 ⟨(h.1 l List.mem_cons_self).2,fun r hr=>h.2.1 r (List.mem_append_left _ hr),(List.pairwise_append.1 h.2.2.1).1⟩
   .rw[if_neg hp];have⟨p1,p2,p3⟩:=(bN6 l).1 (by simpa using hp);have hfi:=xU p3;have hla:=aW8 p3;by_cases hl:low p (gD l)=A'
    .rw[if_pos hl];refine⟨fun h=>by omega,fun h=>?_⟩;cases p with
     |none=>simp[low]at hl
     |some q=>have:=h.2.2.2 q rfl x (by rw[List.flatten_cons];exact List.mem_append_left _ hx);simp[low]at hl;omega
    .rw[if_neg hl,ih,List.flatten_cons,List.pairwise_append];have hl':=vT hl;constructor
     .rintro⟨h1,h2,h3,h4⟩;refine⟨fun m hm=>?_,fun r hr=>?_,⟨p3,h3,fun a ha b hb=>?_⟩,fun q hq r hr=>?_⟩
      .rcases List.mem_cons.1 hm with rfl|hm
       .exact⟨h0,p1⟩
       .exact h1 m hm
      .rcases List.mem_append.1 hr with hr|hr
       .exact p2 r hr
       .exact h2 r hr
      .have:=hla a ha;have:=h4 (mZ l) rfl b hb;omega
      .have h5:=hl' q hq;rcases List.mem_append.1 hr with hr|hr
       .have:=hfi r hr;omega
       .have h6:=h4 (mZ l) rfl r hr;have h7:=hla x hx;omega
     .rintro⟨h1,h2,⟨_,h4,h5⟩,h6⟩;refine⟨fun m hm=>h1 m (List.mem_cons_of_mem _ hm),fun r hr=>h2 r (List.mem_append_right _ hr),h4,fun q hq r hr=>?_⟩;cases hq;have:=h5 y hy r hr;omega
theorem jW(ls:List (List Row)):aL ls=0↔ls.length<=60/\(∀l∈ls,l.length≠0/\l.length<=4)/\(∀r∈ls.flatten,r.fault=0)/\ls.flatten.Pairwise (fun a b=>a.k<b.k):=by
 unfold aL;by_cases h:60<ls.length
 .rw[if_pos h];exact⟨fun h=>by omega,fun h=>by omega⟩
 .rw[if_neg h,dG5];exact⟨fun h'=>⟨by omega,h'.1,h'.2.1,h'.2.2.1⟩,fun h'=>⟨h'.2.1,h'.2.2.1,h'.2.2.2,fun q hq=>by cases hq⟩⟩
end Ch
theorem cU(v lo hi:Int)(w:World):
  Calls prog 101 #[I J v,I J lo,I J hi] w fun e w'=>e=R' (X (inB v lo hi))/\w'=w:=by
 unfold inB;by_cases h1:lo<=v;all_goals by_cases h2:v<=hi
 all_goals
  go_enter func101,ntmps101
  go_wp2;go_ret;exact⟨by simp[h1,h2],rfl⟩
theorem cQ(v:Int)(w:World):
  Calls prog 124 #[I J v] w fun e w'=>e=R' (X (inB v 0 99))/\w'=w:=by
 go_enter func124,ntmps124
 go_wp2_with(go_at_call 101;refine(cU _ _ _ _).mono ?_;rintro e w'⟨rfl,rfl⟩)
 go_ret;exact⟨rfl,rfl⟩
theorem bM(v:Int)(w:World):
  Calls prog 125 #[I J v] w fun e w'=>e=R' (X (inB v 0 9999))/\w'=w:=by
 go_enter func125,ntmps125
 go_wp2_with(go_at_call 101;refine(cU _ _ _ _).mono ?_;rintro e w'⟨rfl,rfl⟩)
 go_ret;exact⟨rfl,rfl⟩
theorem aV5(v:Int)(w:World):
  Calls prog 60 #[I J v] w fun e w'=>e=R' (X (inB v 0 99))/\w'=w:=by
 unfold inB;by_cases h1:0<=v;all_goals by_cases h2:v<=99
 all_goals
  go_enter func60,ntmps60
  go_wp2;go_ret;exact⟨by simp[h1,h2],rfl⟩
theorem aD0(v:Int)(w:World):
  Calls prog 122 #[I J v] w fun e w'=>e=R' (X (inB v 0 9999))/\w'=w:=by
 unfold inB;by_cases h1:0<=v;all_goals by_cases h2:v<=9999
 all_goals
  go_enter func122,ntmps122
  go_wp2;go_ret;exact⟨by simp[h1,h2],rfl⟩
theorem cK{k:IntKind}(h:a=b):R' (I k a)=R' (I k b):=by rw[h]
theorem hid{p:Prop}(h:p):Hid p:=h
theorem cW{a b c:World}{g:Nat}(h:a.grownBy b (Y g))(k:b.grownBy c (Y g)):a.grownBy c (Y g):=
 ⟨k.os.trans h.os,k.tape.trans h.tape,k.output.trans h.output,Nat.le_trans h.size k.size,fun j hj hne=>(k.block j (Nat.lt_of_lt_of_le hj h.size) hne).trans (h.block j hj hne)⟩
theorem aG(h:w.ownsRow base e size v n xs)(g:Nat)(hg:v.ownBlock=Y g):base<=g/\g<w.heap.size:=by
 rcases h.2 with⟨hv,_⟩|⟨g',cap',cur,hv,hb,hh,_⟩
 .subst hv;simp[Value.ownBlock]at hg
 .subst hv;simp[Value.ownBlock]at hg;subst hg;refine⟨hb,?_⟩;by_cases hlt:g'<w.heap.size
  .exact hlt
  .rw[Array.getElem?_eq_none (by omega)]at hh;cases hh
theorem aK(h:w.ownsRow base e size v n xs)(hg:w.grownBy w' row)(hne:∀g,v.ownBlock=Y g->row≠Y g):w'.ownsRow base e size v n xs:=by
 refine⟨h.1,?_⟩;rcases h.2 with h'|⟨g,cap,cur,hv,hb,hh,h1,h2,h3,h4⟩
 .exact .inl h'
 .refine .inr ⟨g,cap,cur,hv,hb,?_,h1,h2,h3,h4⟩;have hlt:=(aG h g (by rw[hv];rfl)).2;have:=hne g (by rw[hv];rfl);rw[hg.block g hlt (fun e=>this e.symm)];exact hh
theorem aM(hg:w.grownBy w' row){b o:Nat}(h:w.cell? ⟨b,o,O⟩=Y v)(hne:row≠Y b):w'.cell? ⟨b,o,O⟩=Y v:=
 (World.grownBy.cell_far hg ⟨b,o,O⟩ (aD h) (fun e=>hne e.symm)).trans h
theorem gG{a:Option Addr}{m:Nat}(h:CellsAt w a m xs)(hg:w.grownBy w' row)(hB:∀b off,a=Y ⟨b,off,O⟩->row≠Y b):CellsAt w' a m xs:=by
 refine⟨h.1,fun hm=>?_⟩;obtain⟨b,off,ha,hc⟩:=h.2 hm;refine⟨b,off,ha,fun i hi=>?_⟩;have hx:xs[i]? =Y (xs[i]'(by rw[h.1];exact hi)):=by simp
 rw[hx];exact aM hg ((hc i hi).trans hx) (hB b off ha)
theorem uN{o:Obj}(h:(w.alloc o).grownBy w' row):w.grownBy w' row:=
 ⟨h.os,h.tape,h.output,by have:=h.size;simp at this;omega,fun k hk hne=>(h.block k (by simp;omega) hne).trans (Below.heap_alloc w o k hk)⟩
theorem mC(k v:Int)(g:Bool)(w:World):
  Calls prog 126 #[U #[I J k,I J v,X g]] w fun e w'=>e=R' (I J (dL k v g))/\Below w.heap.size w w':=by
 unfold dL;cases hk:inB k 0 99;all_goals cases hv:inB v 0 9999
 all_goals cases g
 all_goals cases h0:(v !=0)
 all_goals
  go_enter func126,ntmps126
  go_wp2_with(first|(go_at_call 124;refine(cQ _ _).mono ?_;rintro e w'⟨rfl,rfl⟩)|(go_at_call 125;refine(bM _ _).mono ?_;rintro e w'⟨rfl,rfl⟩))
  go_ret;exact⟨by simp,q'⟩
theorem bK1(k v:Int)(g:Bool)(w:World):
  Calls prog 80 #[U #[I J k,I J v,X g]] w fun e w'=>e=R' (I J (dL k v g))/\Below w.heap.size w w':=by
 unfold dL;cases hk:inB k 0 99;all_goals cases hv:inB v 0 9999
 all_goals cases g
 all_goals cases h0:(v !=0)
 all_goals
  go_enter func80,ntmps80
  go_wp2_with(first|(go_at_call 60;refine(aV5 _ _).mono ?_;rintro e w'⟨rfl,rfl⟩)|(go_at_call 122;refine(aD0 _ _).mono ?_;rintro e w'⟨rfl,rfl⟩))
  go_ret;exact⟨by simp,q'⟩
theorem Tryz.info86:(prog.info? 86).map (fun i=>(i.zero,i.size,i.bytes))=Y (Y (U #[I J 0,I J 0,X F']),3,24):=by kernel_rfl
theorem kM{k:IntKind}(h:a=b):R' (I k a)=R' (I k b):=by rw[h]
theorem bP2(a:Option Addr)(n cap:Nat)(rs:List Row)(w:World)(h:CellsAt w a (n*3) (rcells rs))(hn:n<=1099511627776):
  Calls prog 127 #[Z a n cap] w fun e w'=>e=R' (I J (iN rs))/\Below w.heap.size w w':=by
 have HL:=h.rlen;go_enter func127,ntmps127
 go_wp2;go_loopw [3] (fun i wr=>∃k:Nat,k<=n/\i=I J k/\Hid (iN rs=iJ rs k)/\Below w.heap.size w wr) (fun i _=>n-(intOf i).toNat)
 case atStart=>exact⟨0,Nat.zero_le _,rfl,rfl,u'⟩
 case round=>
  obtain⟨k,hk,rfl,HR,hB⟩:=hrel;by_cases hlt:k<n
  .have hkl:k<rs.length:=by have:=HL.out;omega
   have HF:Hid (((rs.getD k Row.zero).fault !=0)=A'->iN rs=(rs.getD k Row.zero).fault):=fun hf=>HR.out.trans (aQ0 rs k hkl hf);obtain⟨b,off,rfl,hc0,hc1,hc2⟩:=(h.below hB).row hlt;cases k with
   |zero=>
    have HN:Hid (((rs.getD 0 Row.zero).fault !=0)=F'->iN rs=iJ rs 1):=fun hf=>HR.out.trans (vD rs hkl hf);generalize rs.getD 0 Row.zero=r at*;obtain⟨rk,rv,rg⟩:=r;simp only[Row.fault,Nat.zero_mul,Nat.add_zero]at hc0 hc1 hc2 HF HN;have hd:decide ((0:Int)<((0:Nat):Int))=F':=by simp
    cases hf:(dL rk rv rg !=0)
    .go_wp2_with fail
     refine(mC _ _ _ _).mono ?_;rintro e w1⟨rfl,b1⟩;have hB1:=hB.trans (b1.mono hB.size);go_wp2;go_quiet (fail)
     go_wp2;go_roundw;case rel=>exact⟨1,by omega,by go_num,HN.out hf,Go.below_drewN hB1 _⟩
     case measure=>simp[intOf];omega
    .go_wp2_with fail
     refine(mC _ _ _ _).mono ?_;rintro e w1⟨rfl,b1⟩;have hB1:=hB.trans (b1.mono hB.size);go_wp2;go_ret;exact⟨kM (HF.out hf).symm,hB1⟩
   |succ j=>
    have HN:Hid (((rs.getD (j+1) Row.zero).fault !=0)=F'->¬(rs.getD (j+1) Row.zero).k<=(rs.getD j Row.zero).k->iN rs=iJ rs (j+1+1)):=fun hf hl=>HR.out.trans (aE7 rs j hkl hf hl);have HM:Hid (((rs.getD (j+1) Row.zero).fault !=0)=F'->(rs.getD (j+1) Row.zero).k<=(rs.getD j Row.zero).k->iN rs=1):=fun hf hl=>HR.out.trans (zO rs j hkl hf hl);obtain⟨b',off',hbo,hp0,_,_⟩:=(h.below hB).row (show j<n by omega);simp only[Option.some.injEq,Addr.mk.injEq,and_true]at hbo;obtain⟨rfl,rfl⟩:=hbo;generalize rs.getD (j+1) Row.zero=r at*;generalize(rs.getD j Row.zero).k=pk at*;obtain⟨rk,rv,rg⟩:=r;simp only[Row.fault]at hc0 hc1 hc2 HF HN HM;have hd:(0:Int)<((j+1:Nat):Int):=by omega
    cases hf:(dL rk rv rg !=0)
    .by_cases hle:rk<=pk
     .go_wp2_with fail
      refine(mC _ _ _ _).mono ?_;rintro e w1⟨rfl,b1⟩;have hB1:=hB.trans (b1.mono hB.size);have d0:=aC b1 hc0;have q0:=aC b1 hp0;clear hc0 hc1 hc2 hp0;go_wp2;go_quiet (fail)
      go_wp2;go_ret;exact⟨kM (HM.out hf hle).symm,Go.below_drewN hB1 _⟩
     .go_wp2_with fail
      refine(mC _ _ _ _).mono ?_;rintro e w1⟨rfl,b1⟩;have hB1:=hB.trans (b1.mono hB.size);have d0:=aC b1 hc0;have q0:=aC b1 hp0;clear hc0 hc1 hc2 hp0;go_wp2;go_quiet (fail)
      go_wp2;go_roundw;case rel=>exact⟨j+1+1,by omega,by go_num,HN.out hf (by omega),Go.below_drewN hB1 _⟩
      case measure=>simp[intOf];omega
    .go_wp2_with fail
     refine(mC _ _ _ _).mono ?_;rintro e w1⟨rfl,b1⟩;have hB1:=hB.trans (b1.mono hB.size);go_wp2;go_ret;exact⟨kM (HF.out hf).symm,hB1⟩
  .obtain rfl:k=n:=by omega
   go_wp2;go_ret;exact⟨kM (by rw[HR.out,zN _ _ (by have:=HL.out;omega)]),hB⟩
theorem tD(a:Option Addr)(n cap:Nat)(rs:List Row)(w:World)(h:CellsAt w a (n*3) (rcells rs))(hn:n<=1099511627776):
  Calls prog 168 #[Z a n cap] w fun e w'=>e=R' (I J (cI rs))/\Below w.heap.size w w':=by
 have HL:=h.rlen;by_cases h4:4<n
 .go_enter func168,ntmps168
  go_wp2;go_ret;exact⟨kM (by rw[cI,if_pos (by have:=HL.out;omega)]),u'⟩
 .go_enter func168,ntmps168
  go_wp2_with fail
  refine(bP2 a n cap rs w h hn).mono ?_;rintro e w1⟨rfl,b1⟩;go_wp2;go_ret;exact⟨kM (by rw[cI,if_neg (by have:=HL.out;omega)]),b1⟩
end Go.Proofs.YtpbbokalojdooaaGreat
