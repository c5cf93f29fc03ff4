import Derived.Test.YtpbbokalojdooaaGreatWal
import Derived.Test.YtpbbokalojdooaaGreatWan
namespace Go.Proofs.YtpbbokalojdooaaGreat
open Go.RowKit Ch Go.Proofs.Tryz
set_option linter.unusedSimpArgs false
set_option linter.unusedVariables false
set_option maxRecDepth 20000
set_option maxHeartbeats 8000000
open Value renaming int->I,slice->Z,bool->X,agg->U
open IntKind renaming i64->J
open Option renaming none->O,some->Y
open Obj renaming cells->M
open Ending renaming returned->R'
open Bool renaming true->A',false->F'
variable {a0:Act} {L0 l:Array Bool} {ops:Array Oper} {Q:Exit->Act->World->Prop} {ky r t x:Int} {f:Int->Int} {es:List (Int×Int)} {vs:List (Value×Value)} {ls:List Lock} {E:List Nat} {zs:List Row} {B fuel i k n:Nat} {a':Option Addr} {P:Program} {T:TypeId} {v:Value} {q:Value×Value} {w:World} {S:World->Prop}
theorem bE9{w:Int}:∀(l:List (Int×Int)) (b:Int),(∀e∈l,e∈es)->(b=0\/(x,b)∈es/\f b=w)->
  (l.foldl (fun b e=>if e.1=x/\f e.2=w/\(b=0\/e.2<b)then e.2 else b) b=0\/(x,l.foldl (fun b e=>if e.1=x/\f e.2=w/\(b=0\/e.2<b)then e.2 else b) b)∈es/\f (l.foldl (fun b e=>if e.1=x/\f e.2=w/\(b=0\/e.2<b)then e.2 else b) b)=w):=by
 intro l;induction l with
 |nil=>intro b _ h;exact h
 |cons e l ih=>
  intro b hs h;rw[List.foldl_cons];refine ih _ (fun e' he=>hs e' (Ba _ he)) ?_;by_cases hc:e.1=x/\f e.2=w/\(b=0\/e.2<b)
  .rw[if_pos hc];right;refine⟨?_,hc.2.1⟩;rw[<-hc.1];exact hs e (Bj ..)
  .rw[if_neg hc];exact h
theorem bR0{w:Int}:∀(l:List (Int×Int)) (b:Int),(∀e∈l,0<e.2)->0<=b->(0<b\/∃e∈l,e.1=x/\f e.2=w)->
  0<l.foldl (fun b e=>if e.1=x/\f e.2=w/\(b=0\/e.2<b)then e.2 else b) b:=by
 intro l;induction l with
 |nil=>
  intro b _ _ h;rcases h with h|⟨e,he,_⟩
  .exact h
  .cases he
 |cons e l ih=>
  intro b hp h0 h;rw[List.foldl_cons];have he:=hp e (Bj ..);have hp':=fun e' h'=>hp e' (Ba e h');by_cases hc:e.1=x/\f e.2=w/\(b=0\/e.2<b)
  .rw[if_pos hc];exact ih _ hp' (by omega) (.inl he)
  .rw[if_neg hc];refine ih _ hp' h0 ?_;rcases h with h|⟨e',he',h1,h2⟩
   .exact .inl h
   .rcases Am.1 he' with rfl|he'
    .left;have:¬(b=0\/e'.2<b):=fun hh=>hc ⟨h1,h2,hh⟩;omega
    .exact .inr ⟨e',he',h1,h2⟩
theorem cI2{w:Int}(hp:∀e∈es,0<e.2)(h:∃u,(x,u)∈es/\f u=w):(x,jJ es f x w)∈es/\f (jJ es f x w)=w:=by
 obtain⟨u,hu,hf⟩:=h;have h1:=bR0 (f:=f) (x:=x) (w:=w) es 0 hp (by omega) (.inr ⟨(x,u),hu,rfl,hf⟩);have h2:=bE9 (es:=es) (f:=f) (x:=x) (w:=w) es 0 (fun _ h=>h) (.inl rfl);unfold jJ;rcases h2 with h2|h2
 .omega
 .exact h2
theorem cJ7:∀(l:List (Int×Int)) (s:Int),(∀e∈l,e∈es)->(s<0\/∃u,(t,u)∈es/\f u=s)->
  (l.foldl (fun s e=>if e.1=t/\0<=f e.2/\(s<0\/f e.2<s)then f e.2 else s) s<0\/∃u,(t,u)∈es/\f u=l.foldl (fun s e=>if e.1=t/\0<=f e.2/\(s<0\/f e.2<s)then f e.2 else s) s):=by
 intro l;induction l with
 |nil=>intro s _ h;exact h
 |cons e l ih=>
  intro s hs h;rw[List.foldl_cons];refine ih _ (fun e' he=>hs e' (Ba _ he)) ?_;by_cases hc:e.1=t/\0<=f e.2/\(s<0\/f e.2<s)
  .rw[if_pos hc];right;refine⟨e.2,?_,rfl⟩;rw[<-hc.1];exact hs e (Bj ..)
  .rw[if_neg hc];exact h
def Ch.Links(es:List (Int×Int))(t:Int):Int->List Int->Prop
 |x,[]=>(x,t)∈es
 |x,u::l=>(x,u)∈es/\Links es t u l
theorem Ch.Links.at:∀(l:List Int) (x:Int),Links es t x l->∀i,i<l.length+1->((x::l).getD i 0,((x::l)++[t]).getD (i+1) 0)∈es:=by
 intro l;induction l with
 |nil=>
  intro x h i hi;have:i=0:=by simp at hi;omega
  subst this;simpa[Links]using h
 |cons u l ih=>
  intro x h i hi;cases i with
  |zero=>simpa using h.1
  |succ i=>have:=ih u h.2 i (by simp at hi;omega);simpa using this
theorem aU9(hp:∀e∈es,0<e.2)(hz:∀x,f x=0->x=t)(hd:∀x (d:Nat),f x=(d:Int)+1->∃u,(x,u)∈es/\f u=d):
  ∀(k:Nat) (x:Int),(∃u,(x,u)∈es/\f u=k)->Links es t x (fR es f k x)/\(∀y∈fR es f k x,1<=f y/\f y<=k)/\(fR es f k x).Nodup:=by
 intro k;induction k with
 |zero=>intro x ⟨u,hu,hf⟩;have:=hz u (by simpa using hf);subst this;exact⟨hu,fun y hy=>by simp[fR]at hy,by simp[fR]⟩
 |succ k ih=>
  intro x ⟨u,hu,hf⟩;obtain⟨h1,h2⟩:=cI2 (f:=f) (x:=x) (w:=(k:Int)+1) hp ⟨u,hu,by simpa using hf⟩;obtain⟨i1,i2,i3⟩:=ih _ (hd _ k h2);unfold fR;refine⟨⟨h1,i1⟩,fun y hy=>?_,?_⟩
  .rcases Am.1 hy with rfl|hy
   .rw[h2];omega
   .have:=i2 y hy;omega
  .refine Eb.2 ⟨fun hm=>?_,i3⟩;have:=i2 _ hm;omega
theorem cU3(hp:∀e∈es,0<e.2)(hself:(t,t)∉es)(h:¬(fP es t).length=0):
  ∃l,fP es t=t::l/\0<l.length/\(t::l).Nodup/\Links es t t l:=by
 have F:=cU6 (t:=t) (es:=es) (sc:=fun x=>(es.filter (fun e=>decide (e.1=x))).map (·.2)) (fun x u=>by
  simp only[Db,By,Cs];constructor
  .rintro⟨e,⟨h1,h2⟩,h3⟩;rw[<-h2,<-h3];exact h1
  .intro h;exact⟨(x,u),⟨h,rfl⟩,rfl⟩)
 have hz:∀x,dD es t es.length x=0->x=t:=fun x hx=>(F.zero x).1 (by simp[hx]);have hzt:dD es t es.length t=0:=by
  have:=(F.zero t).2 rfl;by_cases h0:0<=dD es t es.length t
  .simp only[if_pos h0,Af]at this;omega
  .simp only[if_neg h0]at this;cases this
 have hd:∀x (d:Nat),dD es t es.length x=(d:Int)+1->∃u,(x,u)∈es/\dD es t es.length u=d:=fun x d hx=>by
  obtain⟨u,hu,hf⟩:=F.down x d (by rw[if_pos (by omega)];congr 1;omega)
  refine⟨u,?_,?_⟩
  .simp only[Db,By,Cs]at hu;obtain⟨e,⟨h1,h2⟩,h3⟩:=hu;rw[<-h2,<-h3];exact h1
  .by_cases h0:0<=dD es t es.length u
   .simp only[if_pos h0,Af]at hf;omega
   .simp only[if_neg h0]at hf;cases hf
 unfold fP at h⊢;by_cases hs:pB es (dD es t es.length) t<0
 .rw[if_pos hs]at h;exact absurd rfl h
 .rw[if_neg hs];have hu:=cJ7 (es:=es) (f:=dD es t es.length) (t:=t) es (-1) (fun _ h=>h) (.inl (by omega));rcases hu with hu|⟨u,hu,hf⟩
  .exact absurd hu hs
  .have hm:((pB es (dD es t es.length) t).toNat:Int)=pB es (dD es t es.length) t:=by omega
   obtain⟨i1,i2,i3⟩:=aU9 hp hz hd (pB es (dD es t es.length) t).toNat t ⟨u,hu,by rw[hm];exact hf⟩;refine⟨_,rfl,?_,?_,i1⟩
   .rw[aG0];rcases Ei (pB es (dD es t es.length) t).toNat with h0|h0
    .exfalso;have:dD es t es.length u=0:=by rw[hf];show pB es (dD es t es.length) t=0;omega
     have:=hz u this;subst this;exact hself hu
    .exact h0
   .refine Eb.2 ⟨fun hm=>?_,i3⟩;have:=i2 _ hm;omega
theorem yK{es:List Hold}{u:Int}:(x,u)∈prE es↔(⟨x,u⟩:Hold)∈es:=by
 unfold prE;simp only[Db,Prod.mk.injEq];constructor
 .rintro⟨⟨a,b⟩,h1,h2,h3⟩;simp only at h2 h3;rw[<-h2,<-h3];exact h1
 .intro h;exact⟨_,h,rfl,rfl⟩
namespace Ch
theorem aK8{l:Lock}{h:Hold}(h0:(dV l k h).2.1=0):l.qs.length<20/\dV l k h=(F',0,⟨l.r,l.hs,l.qs.take k++[h]++l.qs.drop k⟩):=by
 unfold dV at h0⊢;split at h0
 .simp at h0
 .next hh=>rw[if_neg hh];exact⟨by omega,rfl⟩
theorem bL1{l:Lock}(g:Gd l){m:Int}(ht:inB t 1 999=A')(hm:inB m 1 5=A')(hw:aV l.qs t=F')(h0:(cR l t m).2.1=0):Gd (cR l t m).2.2:=by
 obtain⟨hM,hN⟩:=sO g.hn t;have hmM:=aM3 hm;have hname:mN ⟨t,eX (bT l.hs t) m⟩=A':=by unfold mN;rw[ht,cW2 hM hm];rfl
 unfold cR at h0⊢;split
 .exact g
 .next hc=>
  rw[if_neg hc]at h0;have hc':eJ (bT l.hs t) m=F':=by simpa using hc
  split
  .next h1=>
   rw[if_pos h1]at h0;rw[Bq,Dx]at h1;have hh:aV l.hs t=F':=by rw[<-hN,h1.1];rfl
   obtain⟨hl,he⟩:=aK8 h0;rw[he];simp only[Be,List.drop_length,Dz];refine g.last hname hh hw hl ?_;have:=h1.2;rw[Dy]at this;rcases this with h|h
   .exact .inl (by simpa using h)
   .exact .inr (by simpa using h)
  .next h1=>
   rw[if_neg h1]at h0;split
   .next h2=>
    rw[if_pos h2]at h0;have hne:bT l.hs t≠0:=fun e=>h1 (by rw[h2,e];rfl);have hh:aV l.hs t=A':=by rw[<-hN];simpa using hne
    obtain⟨hl,he⟩:=aK8 h0;rw[he];exact g.behind hname hh hw hl (by simpa using h2) (dL0 hM hmM hc') (uZ hM hmM).1
   .next h2=>
    rw[if_neg h2]at h0;split
    .next h3=>rw[if_pos h3]at h0;simp at h0
    .next h3=>
     have hf:eR l.hs t (eX (bT l.hs t) m)=A':=by simpa using h2
     refine g.put hname hf hw (by
      cases hx:aV l.hs t
      .exact .inr (by rw[hx]at h3;simpa using h3)
      .exact .inl rfl) ?_
     by_cases e:bT l.hs t=0
     .right;rw[e]at h1;rw[e]at hf;rw[hf]at h1;have:¬0<l.qs.length:=by simpa using h1
      exact Dd.1 (by omega)
     .exact .inl ⟨by rw[<-hN];simpa using e,(uZ hM hmM).1⟩
theorem dB6(l:Lock)(t m:Int):(cR l t m).2.2.r=l.r:=by
 unfold cR dV;repeat' split
 all_goals rfl
theorem bV5(hg:aT ls=0)(hr:inB r 0 100=A')(hi:i<(bQ r ls).length):0<=(aI (bQ r ls) i).r/\(aI (bQ r ls) i).r<=100/\(0<i->(aI (bQ r ls) (i-1)).r<(aI (bQ r ls) i).r):=by
 have ho:=fun k hk=>iM ((eT hg).1 k hk);unfold bQ at hi⊢;split
 .next h=>rw[if_pos h]at hi;have:=ho i hi;exact⟨this.1,this.2.1,this.2.2.1⟩
 .next h=>
  rw[if_neg h]at hi;have hp:=xJ r ls;have hl:i<ls.length+1:=by simp at hi;omega
  simp only[inB,Bq,Cs]at hr;have hafter:aX r ls<ls.length->r<(aI ls (aX r ls)).r:=fun hlt=>by have h1:=bS0 r ls hlt;have h2:(aI ls (aX r ls)).r≠r:=fun e=>h (by unfold aQ4;rw[Fa hlt,e];simp);omega
  rw[xH _ _ _ _ hp,xH _ _ _ _ hp];rcases En i (aX r ls)with h1|h1|h1
  .rw[if_pos h1];have:=ho i (by omega);exact⟨this.1,this.2.1,fun h0=>by rw[if_pos (by omega)];exact this.2.2.1 h0⟩
  .rw[if_neg (by omega),if_pos h1];exact⟨hr.1,hr.2,fun h0=>by rw[if_pos (by omega)];exact bS2 r ls (by omega)⟩
  .rw[if_neg (by omega),if_neg (by omega)];have:=ho (i-1) (by omega);refine⟨this.1,this.2.1,fun h0=>?_⟩;rw[if_neg (by omega)];by_cases h2:i-1=aX r ls
   .rw[if_pos h2,h2];exact hafter (by omega)
   .rw[if_neg h2];exact this.2.2.1 (by omega)
theorem aA9(r:Int)(ls:List Lock):cI (bQ r ls)=cI ls:=by
 unfold bQ;split
 .rfl
 .unfold cI;rw[Dc,Dc];simp only[Cc,List.flatMap_nil,Dz];rw[<-Dc,Ci]
theorem vV(hk:k<ls.length)(l:Lock):cI (ls.set k l)=cI (ls.take k)++(l.qs++cI (ls.drop (k+1))):=by rw[List.set_eq_take_append_cons_drop,if_pos hk];unfold cI;rw[Dc,Cc]
theorem dC9(l:Lock)(k:Nat)(h:Hold):(dV l k h).2.2.qs=l.qs\/((dV l k h).2.2.qs).Perm (h::l.qs):=by
 unfold dV;split
 .exact .inl rfl
 .right;simp only;rw[Bw,List.singleton_append];refine List.perm_middle.trans ?_;rw[Ci]
theorem cT3(l:Lock)(t m:Int):(cR l t m).2.2.qs=l.qs\/∃h:Hold,h.t=t/\((cR l t m).2.2.qs).Perm (h::l.qs):=by
 have key:∀k j,(dV l k ⟨t,j⟩).2.2.qs=l.qs\/∃h:Hold,h.t=t/\((dV l k ⟨t,j⟩).2.2.qs).Perm (h::l.qs):=fun k j=>by
  rcases dC9 l k ⟨t,j⟩with h|h
  .exact .inl h
  .exact .inr ⟨_,rfl,h⟩
 unfold cR;split
 .exact .inl rfl
 .split
  .exact key _ _
  .split
   .exact key _ _
   .split
    .exact .inl rfl
    .exact .inl rfl
theorem cP1(hg:aT ls=0){m:Int}(ht:inB t 1 999=A')(hr:inB r 0 100=A')(hm:inB m 1 5=A')(hw:iB ls t=F')(h0:(lQ ls t r m).2.1=0):aT (gV ls t r m)=0:=by
 have hno:∀x∈ls,aV x.qs t=F':=by
  rcases dI6 ls t with⟨_,_,_,hh⟩|⟨hb,_⟩
  .intro x hx;obtain⟨i,hi,rfl⟩:=uF hx;exact hh i hi
  .rw[hw]at hb;cases hb
 have hpl:=(qT r ls).1;have hl:Gd (aI (bQ r ls) (aX r ls))/\aV (aI (bQ r ls) (aX r ls)).qs t=F':=by
  rcases aR1 (qV hpl)with h|h
  .exact⟨Gd.of (rA hg h),hno _ h⟩
  .rw[h];exact⟨Gd.new r,rfl⟩
 have hx:=bL1 hl.1 ht hm hl.2 h0;refine bQ3 (fun i hi=>?_) ?_
 .have hi':i<(bQ r ls).length:=by unfold gV at hi;simpa using hi
  have hrr:∀j,(aI (gV ls t r m) j).r=(aI (bQ r ls) j).r:=fun j=>by
   unfold gV;rw[yH _ _ _ _ hpl];split
   .next e=>subst e;exact dB6 _ _ _
   .rfl
  obtain⟨a,b,c⟩:=bV5 hg hr hi';rw[hrr,hrr];refine⟨a,b,c,?_⟩;unfold gV;rw[yH _ _ _ _ hpl];split
  .exact hx.good (bW1 hm h0)
  .next e=>exact rA hg (aB0 hi' fun e'=>e e'.symm)
 .have h2:=(eT hg).2;rw[<-aA9 r ls,<-wM (bQ r ls) (aX r ls),vV hpl]at h2;unfold gV;rw[vV hpl];rw[qR]at h2⊢;rcases cT3 (aI (bQ r ls) (aX r ls)) t m with e|⟨h,e1,e2⟩
  .show(List.map _ (_++((cR (aI (bQ r ls) (aX r ls)) t m).2.2.qs++_))).Nodup;rw[e];exact h2
  .show(List.map _ (_++((cR (aI (bQ r ls) (aX r ls)) t m).2.2.qs++_))).Nodup;have hp:(cI ((bQ r ls).take (aX r ls))++((cR (aI (bQ r ls) (aX r ls)) t m).2.2.qs++cI ((bQ r ls).drop (aX r ls+1)))).Perm (h::(cI ((bQ r ls).take (aX r ls))++((aI (bQ r ls) (aX r ls)).qs++cI ((bQ r ls).drop (aX r ls+1))))):=
    ((e2.append_right _).append_left _).trans List.perm_middle
   rw[(hp.map _).nodup_iff,Ef,Eb];refine⟨fun hmem=>?_,h2⟩;rw[<-vV hpl,wM,aA9]at hmem;obtain⟨x,hx,ex⟩:=Db.1 hmem;unfold cI at hx;obtain⟨y,hy,hxy⟩:=Cf.1 hx;exact nD.1 (hno y hy) x hxy (ex.trans e1)
end Ch
def eB(a0:Act)(d:Nat->Nat)(E:List Nat)(vs:Nat->Value):Act:=E.foldl (fun a j=>a.put (Y (d j)) (vs j)) a0
theorem dG3(a:Act)(x:Nat)(v u:Value):(a.put (Y x) v).put (Y x) u=a.put (Y x) u:=by simp[Act.put,Array.setIfInBounds_setIfInBounds]
theorem dL9(a:Act)(x:Nat):a.put (Y x) (a.eval (.tmp x))=a:=by
 have h:a.tmps.setIfInBounds x (a.tmps.getD x undef)=a.tmps:=by
  apply Array.ext
  .simp
  .intro i h1 h2;rw[Array.getElem_setIfInBounds];split
   .rename_i e
    subst e;simp[Array.getD,h2]
   .rfl
 show({a with tmps:=a.tmps.setIfInBounds x (a.tmps.getD x undef)}:Act)=a;rw[h]
theorem bZ6(d:Nat->Nat)(vs:Nat->Value)(x:Nat)(v:Value):∀(E:List Nat) (a0:Act),(∀k∈E,d k≠x)->(eB a0 d E vs).put (Y x) v=eB (a0.put (Y x) v) d E vs:=by
 intro E;induction E with
 |nil=>intro a0 _;rfl
 |cons j E ih=>intro a0 h;show(eB (a0.put (Y (d j)) (vs j)) d E vs).put (Y x) v=eB ((a0.put (Y x) v).put (Y (d j)) (vs j)) d E vs;rw[ih _ (fun k hk=>h k (Ba _ hk))];congr 1;exact Act.put_comm a0 (vs j) v (fun e he hx=>h j (Bj) (by cases he;cases hx;rfl))
theorem bM1(d:Nat->Nat)(vs us:Nat->Value):∀(E:List Nat) (a0:Act),(∀k∈E,vs k=us k)->eB a0 d E vs=eB a0 d E us:=by
 intro E;induction E with
 |nil=>intro a0 _;rfl
 |cons j E ih=>intro a0 h;show eB (a0.put (Y (d j)) (vs j)) d E vs=eB (a0.put (Y (d j)) (us j)) d E us;rw[h j (Bj)];exact ih _ (fun k hk=>h k (Ba _ hk))
theorem aW3(d:Nat->Nat)(vs:Nat->Value)(i:Nat)(v:Value):∀(E:List Nat) (a0:Act),(∀j∈E,∀k∈E,d j=d k->j=k)->E.Nodup->i∈E->(eB a0 d E vs).put (Y (d i)) v=eB a0 d E (fun j=>if j=i then v else vs j):=by
 intro E;induction E with
 |nil=>intro a0 _ _ h;cases h
 |cons j E ih=>
  intro a0 hd hn hi;have hn':=Eb.1 hn;show(eB (a0.put (Y (d j)) (vs j)) d E vs).put (Y (d i)) v=eB (a0.put (Y (d j)) (if j=i then v else vs j)) d E _;by_cases hij:j=i
  .subst hij;rw[if_pos rfl,bZ6 d vs (d j) v E _ (fun k hk he=>hn'.1 (by rw[<-hd k (Ba _ hk) j Bj he];exact hk)),dG3];exact bM1 d _ _ E _ fun k hk=>by rw[if_neg];intro e;subst e;exact hn'.1 hk
  .rw[if_neg hij];rcases Am.1 hi with h|h
   .exact absurd h.symm hij
   .exact ih _ (fun a ha b hb=>hd a (Ba _ ha) b (Ba _ hb)) hn'.2 h
theorem aW2(d:Nat->Nat)(a0:Act):∀(E:List Nat),eB a0 d E (fun j=>a0.eval (.tmp (d j)))=a0:=by
 intro E;induction E with
 |nil=>rfl
 |cons j E ih=>show eB (a0.put (Y (d j)) (a0.eval (.tmp (d j)))) d E _=a0;rw[dL9];exact ih
def unl(n:Nat)(l:Array Bool):Nat:=((List.range n).filter fun i=>!l.getD i A').length
theorem aD3{p q:Nat->Bool}:∀(l:List Nat),(∀j,q j=A'->p j=A')->i∈l->p i=A'->q i=F'->(l.filter q).length<(l.filter p).length:=by
 intro l;induction l with
 |nil=>intro _ h;cases h
 |cons x l ih=>
  intro hs hi hp hq;have hle:(l.filter q).length<=(l.filter p).length:=by
   clear ih hi;induction l with
   |nil=>simp
   |cons y l ih=>
    rw[Dh,Dh];cases hy:q y
    .cases hy':p y
     .simpa using ih
     .simp;omega
    .rw[hs y hy];simpa using ih
  rw[Dh,Dh];rcases Am.1 hi with h|h
  .subst h;rw[hp,hq];simp;omega
  .have:=ih hs h hp hq;cases hx:q x
   .cases hx':p x
    .simpa using this
    .simp;omega
   .rw[hs x hx];simpa using this
theorem sK(l:Array Bool)(i j:Nat)(b:Bool)(h:i<l.size):(l.setIfInBounds i A').getD j b=if i=j then A' else l.getD j b:=by
 by_cases hij:i=j
 .subst hij;simp[Array.getD,h]
 .rw[if_neg hij];simp only[Array.getD,Fc];split
  .rename_i hj
   exact Array.getElem_setIfInBounds_ne (by simpa using hj) hij
  .rfl
theorem aX1(hi:i<l.size)(h:l.getD i A'=A'):l.getD i F'=A':=by simp only[Array.getD,dif_pos hi]at h⊢;exact h
theorem sL(h:l.getD i F'=A'):l.getD i A'=A':=by
 simp only[Array.getD]at h⊢;split at h
 .rename_i hi;rw[dif_pos hi];exact h
 .cases h
theorem cS7(hi:i<n)(hs:l.size=n)(h:l.getD i A'=F'):unl n (l.setIfInBounds i A')<unl n l:=by
 unfold unl;refine aD3 (i:=i) _ (fun j hj=>?_) (Dg.2 hi) (by rw[h];rfl) (by rw[sK _ _ _ _ (by omega),if_pos rfl];rfl);rw[sK _ _ _ _ (by omega)]at hj;by_cases hij:i=j
 .rw[if_pos hij]at hj;cases hj
 .rw[if_neg hij]at hj;exact hj
theorem vI(h:i∈Region.ready .any ops l):∃o,ops[i]? =Y o/\i<ops.size/\l.getD i A'=F'/\∀e,e∈o.after->Region.binds .any e=A'->l.getD e.on F'=A':=by unfold Region.ready at h;rw[By]at h;obtain⟨h1,h2⟩:=h;have hi:i<ops.size:=Dg.1 h1;have ho:ops[i]? =Y ops[i]:=Fo hi;rw[ho]at h2;simp only[Option.map_some,Option.getD_some,Bq,Ec]at h2;refine⟨_,ho,hi,h2.1,fun e he hb=>?_⟩;have h3:=h2.2;rw[Fx]at h3;have h4:=h3 e he;rw[hb]at h4;simpa using h4
def Oper.waitsFor(o:Oper)(j:Nat):Bool:=o.after.any fun e=>e.on==j&&Region.binds .any e
theorem nK{j:Nat}{o:Oper}(h:i∈Region.ready .any ops l)(ho:ops[i]? =Y o)(hw:Oper.waitsFor o j=A'):l.getD j F'=A':=by obtain⟨o',ho',_,_,h1⟩:=vI h;rw[ho]at ho';cases ho';unfold Oper.waitsFor at hw;rw[Array.any_eq_true']at hw;obtain⟨e,he,h2⟩:=hw;simp only[Bq,Dx]at h2;rw[<-h2.1];exact h1 e he h2.2
theorem vX
  (d:Nat->Nat) (E:List Nat) (z:Nat) (pre:Nat->List Nat) (R:Nat->Value->(Nat->Nat)->World->Prop) (Bs:(Nat->Nat)->World->Prop)
  (hinj:(E.all fun i=>E.all fun j=>d i !=d j||i==j)=A') (hnd:E.Nodup) (hN:(L0.size==ops.size)=A')
  (hcov:((List.range ops.size).all fun i=>L0.getD i A'||E.contains i||i==z)=A') (hz0:(decide (z<ops.size)&&!L0.getD z A'&&!E.contains z)=A') (hE0:(E.all fun j=>!L0.getD j A')=A')
  (hpre:(E.all fun i=>match ops[i]? with|Y o=>(pre i).all (fun j=>E.contains j&&Oper.waitsFor o j)|O=>F')=A')
  (hord:((List.range ops.size).all fun i=>match ops[i]? with|Y o=>o.after.all (fun e=>decide (e.on<i))|O=>A')=A')
  (hz:(E.all fun j=>match ops[z]? with|Y o=>Oper.waitsFor o j|O=>F')=A') (hfu:unl ops.size L0<=fuel)
  (hmono:∀j v T T' w w',R j v T w->(∀k,Kp k T T' w w')->w.heap.size<=w'.heap.size->R j v T' w') (hBS:∀T w,Bs T w->S w)
  (hstep:∀i∈E,∀vs T w,Bs T w->(∀j∈pre i,R j (vs j) T w)->wpOp P ops Q i (fun a' w'=>∃v T',a'=(eB a0 d E vs).put (Y (d i)) v/\R i v T' w'/\(∀k,Kp k T T' w w')/\w.heap.size<=w'.heap.size/\Bs T' w') (eB a0 d E vs) w)
  (hlast:∀vs T w,Bs T w->(∀j∈E,R j (vs j) T w)->∀K:Act->World->Prop,(∀a' w',S w'->Q .normal a' w'->K a' w')->wpOp P ops Q z K (eB a0 d E vs) w)
  (T:Nat->Nat) (hB:Bs T w):wpAnyH P .any ops Q S fuel L0 a0 w:=by
 have hinj':∀j∈E,∀k∈E,d j=d k->j=k:=by intro j hj k hk he;have:=Az.1 (Az.1 hinj j hj) k hk;simpa[he]using this
 have hN':L0.size=ops.size:=by simpa using hN
 simp only[Bq,Cs,Ec]at hz0;have hzE:z∉E:=by have:=hz0.2;simpa using this
 have key:∀(fuel:Nat) (l:Array Bool) (a:Act) (w:World),l.size=ops.size->(∀i,i<ops.size->i∉E->i≠z->l.getD i A'=A')->unl ops.size l<=fuel->
   ((l.getD z A'=F'/\∃vs T,a=eB a0 d E vs/\Bs T w/\∀j∈E,l.getD j A'=A'->R j (vs j) T w)\/((∀i,i<ops.size->l.getD i A'=A')/\Q .normal a w))->wpAnyH P .any ops Q S fuel l a w:=by
  intro fuel;induction fuel with
  |zero=>
   intro l a w hs hout hf hI;have hall:∀i,i<ops.size->l.getD i A'=A':=by
    intro i hi;cases hc:l.getD i A' with
    |true=>rfl
    |false=>have:=cS7 (n:=ops.size) hi hs hc;omega
   have hr:Region.ready .any ops l=[]:=by apply List.eq_nil_iff_forall_not_mem.2;intro i hi;obtain⟨o,_,h1,h2,_⟩:=vI hi;rw[hall i h1]at h2;cases h2
   refine⟨hr,?_⟩;rcases hI with⟨h1,_⟩|⟨_,h2⟩
   .rw[hall z hz0.1.1]at h1;cases h1
   .exact h2
  |succ fuel ih=>
   intro l a w hs hout hf hI;rcases hI with⟨hlz,vs,T,rfl,hBs,hR⟩|⟨hall,hQ⟩;rotate_left
   .have hr:Region.ready .any ops l=[]:=by apply List.eq_nil_iff_forall_not_mem.2;intro i hi;obtain⟨o,_,h1,h2,_⟩:=vI hi;rw[hall i h1]at h2;cases h2
    refine⟨fun _=>hQ,fun i hi=>?_⟩;rw[hr]at hi;cases hi
   .refine⟨fun hr=>?_,fun i hi=>?_⟩
    .-- nothing comes up:then all of them have,the last one too
     exfalso;have hall:∀i,i<ops.size->l.getD i A'=A':=by
      intro i;induction i using Nat.strongRecOn with
      |_ i ihi=>
       intro hi;cases hc:l.getD i A' with
       |true=>rfl
       |false=>
        have ho:ops[i]? =Y ops[i]:=Fo hi;have h1:=Az.1 hord i (Dg.2 hi);rw[ho]at h1;simp only[]at h1;rw[Fx]at h1;have hm:i∈Region.ready .any ops l:=by
         unfold Region.ready;rw[By];refine⟨Dg.2 hi,?_⟩;rw[ho,hc];simp only[Option.map_some,Option.getD_some,El,Et];rw[Fx];intro e he;have h2:e.on<i:=by simpa using h1 e he
         have h3:=ihi e.on h2 (by omega);rw[aX1 (by omega) h3];simp
        rw[hr]at hm;cases hm
     rw[hall z hz0.1.1]at hlz;cases hlz
    .obtain⟨o,ho,hi1,hi2,_⟩:=vI hi;have hsz:(l.setIfInBounds i A').size=ops.size:=by simpa using hs
     have hl':=fun j b=>sK l i j b (by omega:i<l.size);have hun:unl ops.size (l.setIfInBounds i A')<=fuel:=by have:=cS7 hi1 hs hi2;omega
     by_cases hiE:i∈E
     .have hp:=Az.1 hpre i hiE;rw[ho]at hp;simp only[]at hp;have hpj:∀j∈pre i,R j (vs j) T w:=by intro j hj;have h1:=Az.1 hp j hj;simp only[Bq]at h1;refine hR j (by simpa using h1.1) ?_;exact sL (nK hi ho h1.2)
      refine wpOp_mono ?_ (hstep i hiE vs T w hBs hpj);rintro a' w'⟨v,T',rfl,hRi,hk,hsz',hB'⟩;refine⟨hBS _ _ hB',ih _ _ _ hsz (fun j hj hjE hjz=>?_) hun (Or.inl ⟨?_,fun j=>if j=i then v else vs j,T',aW3 d vs i v E a0 hinj' hnd hiE,hB',fun j hj hlj=>?_⟩)⟩
      .rw[hl'];split
       .rfl
       .exact hout j hj hjE hjz
      .rw[hl',if_neg]
       .exact hlz
       .intro e;subst e;exact hzE hiE
      .rw[hl']at hlj;by_cases hji:j=i
       .subst hji;simp only[Fl];exact hRi
       .show R j (if j=i then v else vs j) T' w';rw[if_neg hji];rw[if_neg (fun e=>hji e.symm)]at hlj;exact hmono j _ T T' w w' (hR j hj hlj) hk hsz'
     .have hiz:i=z:=by
       by_cases h:i=z
       .exact h
       .have:=hout i hi1 hiE h;rw[this]at hi2;cases hi2
      subst hiz;have hRall:∀j∈E,R j (vs j) T w:=by intro j hj;have h1:=Az.1 hz j hj;rw[ho]at h1;refine hR j hj ?_;exact sL (nK hi ho h1)
      refine hlast vs T w hBs hRall _ fun a' w' hS' hQ'=>?_;refine⟨hS',ih _ _ _ hsz (fun j hj hjE hjz=>?_) hun (Or.inr ⟨fun j hj=>?_,hQ'⟩)⟩
      .rw[hl'];split
       .rfl
       .exact hout j hj hjE hjz
      .rw[hl'];split
       .rfl
       .by_cases hjE:j∈E
        .have h1:=Az.1 hz j hjE;rw[ho]at h1;exact sL (nK hi ho h1)
        .rename_i hne
         exact hout j hj hjE (fun e=>hne e.symm)
 refine key fuel L0 a0 w hN' (fun i hi hiE hiz=>?_) hfu (Or.inl ⟨hz0.1.2,fun j=>a0.eval (.tmp (d j)),T,(aW2 d a0 E).symm,hB,fun j hj hl=>?_⟩)
 .have:=Az.1 hcov i (Dg.2 hi);simp only[Dy,Dx]at this;rcases this with(h|h)|h
  .exact h
  .exact absurd (by simpa using h) hiE
  .exact absurd h hiz
 .have:=Az.1 hE0 j hj;rw[hl]at this;cases this
def aQ8(E:List Nat)(l:Array Bool):Nat:=(E.filter fun i=>!l.getD i A').length
theorem bV3(hi:i∈E)(hs:i<l.size)(h:l.getD i A'=F'):aQ8 E (l.setIfInBounds i A')<aQ8 E l:=by
 unfold aQ8;refine aD3 (i:=i) _ (fun j hj=>?_) hi (by rw[h];rfl) (by rw[sK _ _ _ _ hs,if_pos rfl];rfl);rw[sK _ _ _ _ hs]at hj;by_cases hij:i=j
 .rw[if_pos hij]at hj;cases hj
 .rw[if_neg hij]at hj;exact hj
theorem bV7:∀(fuel:Nat) (l:Array Bool) (a:Act) (w:World),wpAnyH P .any ops Q S fuel l a w->wpAnyH P .any ops Q S (fuel+1) l a w:=by
 intro fuel;induction fuel with
 |zero=>intro l a w h;refine⟨fun _=>h.2,fun i hi=>?_⟩;rw[h.1]at hi;cases hi
 |succ fuel ih=>intro l a w h;exact⟨h.1,fun i hi=>wpOp_mono (fun a' w' hh=>⟨hh.1,ih _ _ _ hh.2⟩) (h.2 i hi)⟩
theorem sF
  (d:Nat->Nat) (E:List Nat) (L1:Array Bool) (fuel1:Nat) (pre:Nat->List Nat) (R:Nat->Value->(Nat->Nat)->World->Prop) (Bs:(Nat->Nat)->World->Prop)
  (hinj:(E.all fun i=>E.all fun j=>d i !=d j||i==j)=A') (hnd:E.Nodup) (hN:(L0.size==ops.size&&L1.size==ops.size&&E.all (fun i=>decide (i<ops.size)))=A')
  (hL1:((List.range ops.size).all fun i=>L1.getD i A'==(L0.getD i A'||E.contains i))=A') (hE0:(E.all fun j=>!L0.getD j A')=A')
  (hpre:(E.all fun i=>match ops[i]? with|Y o=>(pre i).all (fun j=>E.contains j&&Oper.waitsFor o j)|O=>F')=A')
  (hord:((List.range ops.size).all fun i=>match ops[i]? with|Y o=>o.after.all (fun e=>decide (e.on<i))|O=>A')=A')
  (hz:((List.range ops.size).all fun z=>L0.getD z A'||E.contains z||(E.all fun j=>match ops[z]? with|Y o=>Oper.waitsFor o j|O=>F'))=A') (hfu:(fuel1+E.length==fuel)=A')
  (hmono:∀j v T T' w w',R j v T w->(∀k,Kp k T T' w w')->w.heap.size<=w'.heap.size->R j v T' w') (hBS:∀T w,Bs T w->S w)
  (hstep:∀i∈E,∀vs T w,Bs T w->(∀j∈pre i,R j (vs j) T w)->wpOp P ops Q i (fun a' w'=>∃v T',a'=(eB a0 d E vs).put (Y (d i)) v/\R i v T' w'/\(∀k,Kp k T T' w w')/\w.heap.size<=w'.heap.size/\Bs T' w') (eB a0 d E vs) w)
  (hlast:∀vs T w,Bs T w->(∀j∈E,R j (vs j) T w)->wpAnyH P .any ops Q S fuel1 L1 (eB a0 d E vs) w)
  (T:Nat->Nat) (hB:Bs T w):wpAnyH P .any ops Q S fuel L0 a0 w:=by
 have hinj':∀j∈E,∀k∈E,d j=d k->j=k:=by intro j hj k hk he;have:=Az.1 (Az.1 hinj j hj) k hk;simpa[he]using this
 simp only[Bq,Dx]at hN;obtain⟨⟨hN0,hN1⟩,hNE⟩:=hN;have hEs:∀j∈E,j<ops.size:=fun j hj=>by simpa using Az.1 hNE j hj
 have key:∀(n:Nat) (l:Array Bool) (w:World) (vs:Nat->Value) (T:Nat->Nat),l.size=ops.size->(∀i,i<ops.size->i∉E->l.getD i A'=L0.getD i A')->aQ8 E l<=n->Bs T w->(∀j∈E,l.getD j A'=A'->R j (vs j) T w)->wpAnyH P .any ops Q S (fuel1+n) l (eB a0 d E vs) w:=by
  intro n;induction n with
  |zero=>
   intro l w vs T hs hout hn hBs hR;have hall:∀j∈E,l.getD j A'=A':=by
    intro j hj;cases hc:l.getD j A' with
    |true=>rfl
    |false=>have:=bV3 hj (by rw[hs];exact hEs j hj) hc;omega
   have hl:l=L1:=by
    apply Array.ext (by rw[hs,hN1]);intro i h1 h2;have h3:=Az.1 hL1 i (Dg.2 (by omega));simp only[Dx]at h3;have h4:L1.getD i A'=L1[i]:=by simp[Array.getD,h2]
    have h5:l.getD i A'=l[i]:=by simp[Array.getD,h1]
    rw[<-h4,<-h5,h3];by_cases hiE:i∈E
    .rw[hall i hiE];simp[hiE]
    .rw[hout i (by omega) hiE];simp[hiE]
   subst hl;exact hlast vs T w hBs fun j hj=>hR j hj (hall j hj)
  |succ n ih=>
   intro l w vs T hs hout hn hBs hR;by_cases hdone:aQ8 E l<=n
   .exact bV7 _ _ _ _ (ih l w vs T hs hout hdone hBs hR)
   .refine⟨fun hr=>?_,fun i hi=>?_⟩
    .exfalso;have hall:∀i,i<ops.size->l.getD i A'=A':=by
      intro i;induction i using Nat.strongRecOn with
      |_ i ihi=>
       intro hi;cases hc:l.getD i A' with
       |true=>rfl
       |false=>
        have ho:ops[i]? =Y ops[i]:=Fo hi;have h1:=Az.1 hord i (Dg.2 hi);rw[ho]at h1;simp only[]at h1;rw[Fx]at h1;have hm:i∈Region.ready .any ops l:=by
         unfold Region.ready;rw[By];refine⟨Dg.2 hi,?_⟩;rw[ho,hc];simp only[Option.map_some,Option.getD_some,El,Et];rw[Fx];intro e he;have h2:e.on<i:=by simpa using h1 e he
         have h3:=ihi e.on h2 (by omega);rw[aX1 (by omega) h3];simp
        rw[hr]at hm;cases hm
     have:aQ8 E l=0:=by unfold aQ8;rw[Dd,Fj];intro j hj;rw[hall j (hEs j hj)];simp
     omega
    .obtain⟨o,ho,hi1,hi2,_⟩:=vI hi;have hsz:(l.setIfInBounds i A').size=ops.size:=by simpa using hs
     have hl':=fun j b=>sK l i j b (by omega:i<l.size);by_cases hiE:i∈E
     .have hun:aQ8 E (l.setIfInBounds i A')<=n:=by have:=bV3 hiE (by omega) hi2;omega
      have hp:=Az.1 hpre i hiE;rw[ho]at hp;simp only[]at hp;have hpj:∀j∈pre i,R j (vs j) T w:=by intro j hj;have h1:=Az.1 hp j hj;simp only[Bq]at h1;exact hR j (by simpa using h1.1) (sL (nK hi ho h1.2))
      refine wpOp_mono ?_ (hstep i hiE vs T w hBs hpj);rintro a' w'⟨v,T',rfl,hRi,hk,hsz',hB'⟩;refine⟨hBS _ _ hB',?_⟩;rw[aW3 d vs i v E a0 hinj' hnd hiE];refine ih _ _ _ T' hsz (fun j hj hjE=>?_) hun hB' (fun j hj hlj=>?_)
      .rw[hl',if_neg (fun e=>hjE (by rw[<-e];exact hiE))];exact hout j hj hjE
      .show R j (if j=i then v else vs j) T' w';rw[hl']at hlj;by_cases hji:j=i
       .subst hji;rw[if_pos rfl];exact hRi
       .rw[if_neg hji];rw[if_neg (fun e=>hji e.symm)]at hlj;exact hmono j _ T T' w w' (hR j hj hlj) hk hsz'
     .exfalso;have h1:=Az.1 hz i (Dg.2 hi1);simp only[Dy]at h1;rcases h1 with(h1|h1)|h1
      .rw[hout i hi1 hiE,h1]at hi2;cases hi2
      .exact hiE (by simpa using h1)
      .have:aQ8 E l=0:=by unfold aQ8;rw[Dd,Fj];intro j hj;have h2:=Az.1 h1 j hj;rw[ho]at h2;rw[sL (nK hi ho h2)];simp
       omega
 have hfu':fuel=fuel1+E.length:=(show fuel1+E.length=fuel by simpa using hfu).symm;have h0:=key E.length L0 w (fun j=>a0.eval (.tmp (d j))) T hN0 (fun i _ _=>rfl) (by unfold aQ8;exact Dt _ _) hB (fun j hj hl=>by have:=Az.1 hE0 j hj;rw[hl]at this;cases this)
 rw[aW2 d a0 E]at h0;rw[hfu'];exact h0
theorem aE2(h:ls.length=vs.length)(hk:k<=ls.length):lcells (ls.take k) (vs.take k)=(lcells ls vs).take (k*3)/\lcells (ls.drop k) (vs.drop k)=(lcells ls vs).drop (k*3):=by
 have ht:(ls.take k).length=(vs.take k).length:=by simp[h]
 have e:lcells ls vs=lcells (ls.take k) (vs.take k)++lcells (ls.drop k) (vs.drop k):=by rw[<-lV ht,Ci,Ci]
 have hl:(lcells (ls.take k) (vs.take k)).length=k*3:=by rw[cH3 ht];simp;omega
 rw[e];exact⟨(List.take_left' hl).symm,(List.drop_left' hl).symm⟩
theorem cQ4(hk:k<=vs.length)(p:Value×Value)(hq:(vs.take k++[p]++vs.drop k)[i]? =Y q):(i<k/\vs[i]? =Y q)\/(i=k/\q=p)\/(k<i/\vs[i-1]? =Y q):=by
 have hlen:(vs.take k).length=k:=by simp;omega
 rcases En i k with h|h|h
 .rw[Bw,Av (by omega),Eo h]at hq;exact .inl ⟨h,hq⟩
 .subst h;rw[Bw,Ay (by omega),hlen]at hq;simp at hq;exact .inr (.inl ⟨rfl,hq.symm⟩)
 .rw[Ay (by simp;omega)]at hq;simp only[Bv,hlen,List.length_singleton,Df]at hq;have:k+(i-(k+1))=i-1:=by omega
  rw[this]at hq;exact .inr (.inr ⟨h,hq⟩)
def dP3:Value×Value:=(Z O 0 0,Z O 0 0)
theorem dE7(vs:List (Value×Value))(k:Nat):(vs.take k++[dP3]++vs.drop k).flatMap blks=vs.flatMap blks:=by
 have e:vs.flatMap blks=(vs.take k).flatMap blks++(vs.drop k).flatMap blks:=by rw[<-Dc,Ci]
 rw[e,Dc,Dc];simp[dP3,blks,Value.ownBlock]
theorem OwnK.ins{w':World}(h:OwnK T w B v n ls vs)(hk:k<=n){c':Nat}
  (own:w'.ownsRow B T 3 (Z a' (n+1) c') (n+1) ((lcells ls vs).take (k*3)++[I J r,Z O 0 0,Z O 0 0]++(lcells ls vs).drop (k*3))) (gr:w.grownBy w' v.ownBlock) (hat:∀g,(Z a' (n+1) c').ownBlock=Y g->v.ownBlock=Y g\/w.heap.size<=g):
  OwnK T w' B (Z a' (n+1) c') (n+1) (ls.take k++[⟨r,[],[]⟩]++ls.drop k) (vs.take k++[dP3]++vs.drop k):=by
 have hl:ls.length=vs.length:=by rw[h.len,h.vlen]
 have hk1:k<=ls.length:=by rw[h.len];exact hk
 have hk2:k<=vs.length:=by rw[h.vlen];exact hk
 have hsub:∀(i:Nat) (q:Value×Value),vs[i]? =Y q->∀g∈blks q,v.ownBlock≠Y g:=fun i q hq g hg e=>sG h.apart hq e hg;refine⟨by simp[h.len];omega,by simp[h.vlen];omega,?_,fun i q hq=>?_,fun i q hq=>?_,?_⟩
 .rw[lV (by simp[hl]),lV (by simp[hl]),(aE2 hl hk1).1,(aE2 hl hk1).2];exact own
 .rw[xH _ _ _ _ hk1];rcases cQ4 hk2 _ hq with⟨hi,hq'⟩|⟨rfl,rfl⟩|⟨hi,hq'⟩
  .rw[if_pos hi];exact aN (h.hs i q hq') gr fun g hg e=>hsub i q hq' g (by simp[blks,hg]) e
  .rw[if_neg (by omega),if_pos rfl];exact Aw _ _ _ _
  .rw[if_neg (by omega),if_neg (by omega)];exact aN (h.hs _ q hq') gr fun g hg e=>hsub _ q hq' g (by simp[blks,hg]) e
 .rw[xH _ _ _ _ hk1];rcases cQ4 hk2 _ hq with⟨hi,hq'⟩|⟨rfl,rfl⟩|⟨hi,hq'⟩
  .rw[if_pos hi];exact aN (h.qs i q hq') gr fun g hg e=>hsub i q hq' g (by simp[blks,hg]) e
  .rw[if_neg (by omega),if_pos rfl];exact Aw _ _ _ _
  .rw[if_neg (by omega),if_neg (by omega)];exact aN (h.qs _ q hq') gr fun g hg e=>hsub _ q hq' g (by simp[blks,hg]) e
 .rw[dE7];exact cP0 h.apart hat fun i q hq g hg=>(h.bd hq hg).2
theorem bQ1(h:∀(i:Nat) (q:Value×Value),vs[i]? =Y q->q.1.oneCell'=A'/\q.2.oneCell'=A'):∀u∈lcells ls vs,u.oneCell'=A':=by
 intro u hu;unfold lcells at hu;rw[Cf]at hu;obtain⟨⟨l,x,y⟩,hz,hu⟩:=hu;have hm:=(List.of_mem_zip hz).2;obtain⟨i,hi⟩:=List.getElem?_of_mem hm;have:=h i _ hi;simp at hu;rcases hu with rfl|rfl|rfl
 .rfl
 .exact this.1
 .exact this.2
theorem OwnK.one'(h:OwnK T w B v n ls vs):∀u∈lcells ls vs,u.oneCell'=A':=by refine bQ1 fun i q hq=>?_;obtain⟨a,c,e⟩:=dT (h.hs i q hq);obtain⟨a2,c2,e2⟩:=dT (h.qs i q hq);rw[e,e2];exact⟨rfl,rfl⟩
theorem bN0(h:k<zs.length)(hk:((zs.getD k Row.zero).k !=ky)=A'):(zs.take (k+1)).filter (dX ky)=(zs.take k).filter (dX ky)++[zs.getD k Row.zero]:=by rw[pY zs k h,Bl];have:dX ky (zs.getD k Row.zero)=A':=hk;simp only[Dh,this,Fl,List.filter_nil]
theorem cA7(h:k<zs.length)(hk:((zs.getD k Row.zero).k !=ky)=F'):(zs.take (k+1)).filter (dX ky)=(zs.take k).filter (dX ky):=by rw[pY zs k h,Bl];have:dX ky (zs.getD k Row.zero)=F':=hk;simp only[Dh,this,List.filter_nil,if_neg (by simp:¬F'=A'),Dz]
def aH9(zs:List Row)(ky:Int)(hs:Bool)(v:Int):List Row:=if hs then eO ⟨ky,v,F'⟩ zs else zs.filter (dX ky)
theorem rN(a:Option Addr)(n cap:Nat)(ky:Int)(hs:Bool)(v:Int)(zs:List Row)(w:World)(h:CellsAt w a (n*3) (rcells zs))(hn:n<=1048576):
  Calls prog 91 #[Z a n cap,I J ky,X hs,I J v] w fun e w'=>∃a' m c',e=R' (Z a' m c')/\w'.ownsRow w.heap.size 86 3 (Z a' m c') m (rcells (aH9 zs ky hs v))/\V' w w':=by
 have HL:=h.rlen;cases hs;rotate_left
 .have HE:Hid (aH9 zs ky A' v=eO ⟨ky,v,F'⟩ zs):=rfl;rw[HE.out];have IP:=fun W hW=>aA5 a n cap zs ky v F' W hW hn;go_enter func91,ntmps91
  go_wp2_with fail
  refine(IP _ h).mono ?_;rintro e w1⟨a',m,c',rfl,o1,b1⟩;clear IP;go_wp2;go_ret;exact⟨a',m,c',rfl,o1,b1⟩
 .have HE:Hid (aH9 zs ky F' v=zs.filter (dX ky)):=rfl;rw[HE.out];obtain⟨i0,hi0,hz0,hz1,hz2⟩:=Bz Tryz.info86;have oE:=gE w w.heap.size 86 3 z';have kE:V' w (w.alloc (M #[] 86)):=(Aa _ _).alloc z' _;go_enter func91,ntmps91
  go_wp2;go_loopw [9,10] (fun q i wr=>∃(k m:Nat) (a':Option Addr) (c':Nat),k<=n/\m<=k/\i=I J k/\q=Z a' m c'/\wr.ownsRow w.heap.size 86 3 (Z a' m c') m (rcells ((zs.take k).filter (dX ky)))/\V' w wr) (fun _ i _=>n-(intOf i).toNat)
  case atStart=>exact⟨0,0,_,_,Ad _,z',rfl,rfl,oE,kE⟩
  case round=>
   clear oE kE;obtain⟨k,m,a',c',hk,hmk,rfl,rfl,own,hB⟩:=hrel;by_cases hlt:k<n
   .have hkl:k<zs.length:=by have:=HL.out;omega
    have HY:=hid (fun h1=>bN0 (ky:=ky) hkl h1);have HN:=hid (fun h1=>cA7 (ky:=ky) hkl h1);obtain⟨b,off,rfl,q0,q1,q2⟩:=(h.below hB).row hlt;have hbl:=aD q0;generalize zs.getD k Row.zero=r at*;obtain⟨rk,rv,rg⟩:=r;simp only at q0 q1 q2 HY HN;generalize(zs.take k).filter (dX ky)=ys at*;have hsum:m+1<=4194304:=by omega
    cases e1:(rk !=ky)
    .replace HN:=hid (HN.out e1);clear HY;go_wp2;go_roundw;case rel=>exact⟨k+1,m,a',c',by omega,by omega,by go_num,rfl,by rw[HN.out];exact own,hB⟩
     case measure=>simp[intOf];omega
    .replace HY:=hid (HY.out e1);clear HN;have kQ:V' wr (wr.alloc (M #[I J rk,I J rv,X rg] 86)):=(Aa _ _).alloc z' _;have own3:=aG own kQ;have hC3:=bQ9 wr rk rv rg 86;have hb3:w.heap.size<=(wr.alloc (M #[I J rk,I J rv,X rg] 86)).heap.size:=by have:=hB.size;simp;omega
     have b3:=hB.trans (kQ.mono hB.size);go_wp2_with(at_builtin;go_must (refine bM underlying24 underlying24 hi0 hz0 hz1 hz2 rfl (by omega) (by omega) (.tmp 31) (.tmp 36) ?_ ?_ w.heap.size (Z a' m c') m (rcells ys) _ 1 1 (rcells [⟨rk,rv,rg⟩]) ?_ ?_ own3 hC3 (vG _) hsum hb3 ?_;exact rfl;exact rfl;exact rfl;exact rfl;intro a5 c5 w5 own5 gr5 at5;go_frame))
     go_roundw;case rel=>rw[<-vF,<-HY.out]at own5;exact⟨k+1,m+1,a5,c5,by omega,by omega,by go_num,rfl,own5,b3.grown gr5 b3.size (fun g hg=>(aH own3 g hg).1)⟩
     case measure=>simp[intOf];omega
   .obtain rfl:k=n:=by omega
    have HWF:Hid (zs.take k=zs):=by have:=HL.out;show _=_;rw[this];exact Be
    rw[HWF.out]at own;go_wp2;go_ret;exact⟨a',m,c',rfl,own,hB⟩
theorem pM(a:Option Addr)(n cap:Nat)(ls:List (List Row))(w:World)(h:LvAt w a n ls)(hs:aW ls<=1048576)(hg:∀k,k<n->(ls.getD k []).length≠0):
  Calls prog 141 #[Z a n cap] w fun e w'=>∃a' c',e=R' (Z a' n c')/\OwnLv w' w.heap.size (Z a' n c') n ls/\V' w w':=by
 have HL:=h.len;have hn:n<=1048576:=by unfold aW at hs;have:=HL.out;omega
 have o0:=pI w w.heap.size z';have O0:OwnLv (w.alloc (M #[] 200)) w.heap.size (Z (Y ⟨w.heap.size,0,O⟩) 0 0) 0 []:=⟨rfl,[],o0,fun i hi=>absurd hi (by omega),fun i j x y g _ hx=>by simp at hx,fun i x g hx=>by simp at hx⟩
 clear o0;go_enter func141,ntmps141
 go_wp2;go_loopw [3,4] (fun q i wr=>∃(k:Nat) (a':Option Addr) (c':Nat),k<=n/\i=I J k/\q=Z a' k c'/\OwnLv wr w.heap.size (Z a' k c') k (ls.take k)/\V' w wr) (fun _ i _=>n-(intOf i).toNat)
 case atStart=>exact⟨0,_,_,Ad _,rfl,rfl,by simpa using O0,(Aa _ _).alloc z' _⟩
 case round=>
  clear O0;obtain⟨k,a',c',hk,rfl,rfl,own,hB⟩:=hrel;by_cases hlt:k<n
  .have hkl:k<ls.length:=by have:=HL.out;omega
   have HS:=hid (fI hs k);have HT:=hid (bZ ls [] k hkl);have hl0:=hg k hlt;obtain⟨b,off,ai,ni,ci,rfl,hc,hr,hni⟩:=h.leaf hlt;have HRl:=hr.rlen;have hni':ni<=1048576:=by have:=HS.out;have:=HRl.out;omega
   have hni0:0<ni:=by have:=HRl.out;omega
   generalize ls.getD k []=l at*;generalize ls.take k=DL at*;clear HS hl0;have hcr:=keep_cell hB hc;have hrr:=hr.below hB;have hbl:=aD hcr;obtain⟨bi,oi,rfl,_⟩:=hr.2 (by omega);have e0:=kH wr wr.heap.size z';have bR:V' wr (wr.alloc (M #[] 86)):=(Aa _ _).alloc z' _;have hr1:=hrr.below bR;obtain⟨vs,hV⟩:=own.told;have hoV:=hV.2.1;have hsum:k+1<=2097152:=by omega
   have hsum0:0+ni<=2097152:=by omega
   have bA:∀(W:World) o,V' W (W.alloc o):=fun W o=>(Aa _ _).alloc z' _;have hBs:=hB.size;go_wp2_with(at_builtin;first|(refine fC (.tmp 13) (.tmp 18) wr.heap.size (Z (Y ⟨wr.heap.size,0,O⟩) 0 0) 0 [] ni l hsum0 ?_ ?_ ?_ ?_ ?_ ?_ ?_;exact rfl;exact rfl;exact rfl;exact⟨_,_,rfl,hr1⟩;exact e0;(focus(simp;done));intro a2 c2 w2 own2 b2;have b2':=bR.trans b2;have own2':=aG hoV b2';simp only[Al,List.nil_append]at own2)|(go_must (refine nL (.tmp 12) (.tmp 21) w.heap.size (Z a' k c') k vs 1 [Z a2 ni c2] hsum (by simp[Value.oneCell']) ?_ ?_ ?_ ?_ ?_ ?_ ?_ (by omega);exact rfl;exact rfl;exact rfl;exact⟨_,_,rfl,vE rfl⟩;exact aG own2' (bA _ _);(focus(have:=b2'.size;simp;omega));intro a3 c3 w3 own3 gr3 at3)))
   go_roundw;case rel=>
    have hbq:=hB.trans (b2'.mono hBs);refine⟨k+1,a3,c3,by omega,by go_num,rfl,?_,?_⟩
    .rw[HT.out];refine OwnLv.snoc hV b2' ?_ hBs rfl own3 gr3 at3;have:=HRl.out;rw[<-this];exact own2
    .refine(hbq.alloc hbq.size _).grown gr3 (by have:=hbq.size;simp;omega) ?_;intro j hj;exact(aH hoV j hj).1
   case measure=>simp[intOf];omega
  .obtain rfl:k=n:=by omega
   go_wp2;go_ret;have e1:=HL.out;rw[Bb (by omega)]at own;exact⟨a',c',rfl,own,hB⟩
end Go.Proofs.YtpbbokalojdooaaGreat
