import Derived.Test.YtpbbokalojdooaaGreatWbh
import Derived.Test.YtpbbokalojdooaaGreatWbi
namespace Go.Proofs.YtpbbokalojdooaaGreat
open Go.RowKit Ch Go.Proofs.Tryz
set_option linter.unusedSimpArgs false
set_option linter.unusedVariables false
set_option maxRecDepth 20000
set_option maxHeartbeats 8000000
open Value renaming int->I,slice->Z,bool->X,agg->U
open IntKind renaming i64->J
open Option renaming none->O,some->Y
open Obj renaming cells->M
open Ending renaming returned->R'
open Bool renaming true->A',false->F'
variable {cs cs':Array Value} {wt:Bool} {s s':EgS} {e e':Eng} {c k p v:Int} {ts:List Ac} {sys zs:List Int} {ls:List Lock} {base:List Row} {xs:List Value} {l:Lock} {H N b g n o:Nat} {T T':Nat->Nat} {us:Nat->Value} {a:Option Addr} {row:Option Nat} {t:TypeId} {x y:Value} {W w w' w0:World}
theorem vD:∀(K:Nat) (lo:Int) (l:List Int),l.Nodup->(∀x∈l,lo<=x/\x<lo+K)->l.length<=K:=by
 intro K;induction K with
 |zero=>
  intro lo l _ h;cases l with
  |nil=>simp
  |cons x l=>have:=h x (by simp);omega
 |succ K ih=>
  intro lo l hn h;have h1:=ih lo (l.filter fun x=>x !=lo+K) (hn.sublist (List.filter_sublist ..)) (fun x hx=>by obtain⟨h2,h3⟩:=By.1 hx;have:=h x h2;simp at h3;omega)
  have h2:l.length<=(l.filter fun x=>x !=lo+K).length+1:=by
   clear ih h h1;induction l with
   |nil=>simp
   |cons x l ihl=>
    rw[Eb]at hn;rw[Dh];split
    .have:=ihl hn.2;simp only[List.length_cons];omega
    .rename_i hx
     have hx':x=lo+K:=by simpa using hx
     have:(l.filter fun x=>x !=lo+K)=l:=List.filter_eq_self.2 (fun y hy=>by simp only[bne_iff_ne,ne_eq];intro e;exact hn.1 (by rw[hx',<-e];exact hy))
     rw[this];simp
  omega
def fE(N:Nat)(ls:List Lock):Prop:=∀l∈ls,∀t,aV l.hs t=A'\/aV l.qs t=A'->1<=t/\t<=N
theorem aU1(h:KnownL e e.lk.length):fE e.tx.length e.lk:=by
 intro l hl t ht;obtain⟨k,hk,rfl⟩:=Cy.1 hl;have e1:aI e.lk k=e.lk[k]:=by simp[aI,List.getD,hk]
 obtain⟨h1,h2⟩:=h k hk;rw[e1]at h1 h2;have H:∀(hs:List Hold),KnownH e hs hs.length->aV hs t=A'->1<=t/\t<=e.tx.length:=by intro hs hk hh;obtain⟨x,hx,rfl⟩:=dO.1 hh;obtain⟨i,hi,rfl⟩:=Cy.1 hx;have:=hk i hi;rw[show hs.getD i Hold.zero=hs[i]by simp[List.getD,hi]]at this;unfold isT inB at this;simpa using this
 rcases ht with h|h
 .exact H _ h1 h
 .exact H _ h2 h
theorem lB(h:aT ls=0)(hl:l∈ls):dL l=0/\0<=l.r:=by
 obtain⟨k,hk,rfl⟩:=Cy.1 hl;have e1:aI ls k=ls[k]:=by simp[aI,List.getD,hk]
 have:=iM ((eT h).1 k hk);rw[e1]at this;exact⟨this.2.2.2,this.1⟩
theorem vB(hg:aT ls=0)(h:fE N ls)(t:Int):fE N (jQ ls t):=by
 intro x hx v hv;obtain⟨⟨l,hl,rfl⟩,_⟩:=wL.1 hx;have hG:=fU (lB hg hl).1;obtain⟨a,ha,hb⟩:=yT (aJ l.hs t) (aJ l.qs t);have hqs:∀y∈aJ l.qs t,y.t=v->1<=v/\v<=N:=by intro y hy e;refine h l hl v (.inr (dO.2 ⟨y,(gX.1 hy).1,e⟩))
 rcases hv with hv|hv
 .have h1:aV (dI (aJ l.hs t) (aJ l.qs t)).1 v=A':=hv;rw[aI4 (jG hG.2.2.2.2.1 t),Dy]at h1;rcases h1 with h1|h1
  .rw[nT]at h1;exact h l hl v (.inl (by revert h1;cases aV l.hs v<;>simp))
  .rw[hb]at h1;have h2:v∈a.map (·.t):=by simpa using h1
   obtain⟨y,hy,e⟩:=Db.1 h2;exact hqs y (by rw[ha];exact Fp _ hy) e
 .have h1:aV (dI (aJ l.hs t) (aJ l.qs t)).2.1 v=A':=hv;obtain⟨y,hy,e⟩:=dO.1 h1;exact hqs y (by rw[ha];exact List.mem_append_right _ hy) e
theorem vT(hg:aT ls=0)(h:fE N ls):(cI ls).length<=N:=by
 have h1:=(qR _).1 (eT hg).2;have:=vD N 1 _ h1 (fun x hx=>by obtain⟨y,hy,rfl⟩:=Db.1 hx;unfold cI at hy;obtain⟨l,hl,hq⟩:=Cf.1 hy;have:=h l hl y.t (.inr (dO.2 ⟨y,hq,rfl⟩));omega)
 simpa using this
theorem vW(h:fE N ls)(hw:iB ls v=A'):1<=v/\v<=N:=by
 rcases sW ls v with h1|⟨x,hx,hq⟩
 .rw[(sX h1).1]at hw;cases hw
 .exact h x hx v (.inr hq)
theorem aH4(hg:aT ls=0)(hw:iB ls v=A'):(cI (jQ ls v)).length<(cI ls).length:=by
 have hs:=vU ls v;rcases Cd (cI (jQ ls v)).length (cI ls).length with h|h
 .exact h
 exfalso;have he:=hs.eq_of_length (Nat.le_antisymm hs.length_le h);rcases sW ls v with h1|⟨x,hx,hq⟩
 .rw[(sX h1).1]at hw;cases hw
 obtain⟨y,hy,e⟩:=dO.1 hq;have hm:y∈cI (jQ ls v):=by rw[he];unfold cI;exact Cf.2 ⟨x,hx,hy⟩
 unfold cI at hm;obtain⟨z,hz,hm⟩:=Cf.1 hm;obtain⟨⟨l,hl,rfl⟩,_⟩:=wL.1 hz;have h2:=(bW4 (Ch.Gd.of (lB hg hl).1) v).2;rw[dO.2 ⟨y,hm,e⟩]at h2;cases h2
theorem aK3(hg:aT ls=0)(h:fE N ls){e:Hold}(he:e∈gW ls):(1<=e.t/\e.t<=N)/\(1<=e.m/\e.m<=N)/\e.t≠e.m/\iB ls e.t=A':=by
 obtain⟨h1,h2⟩:=bJ2 hg he;refine⟨vW h h1,?_,h2,h1⟩;obtain⟨l,hl,i,hi,hm⟩:=aV4.1 he;rcases Aj.1 hm with hm|hm
 .unfold jL at hm;obtain⟨x,hx,rfl⟩:=Db.1 hm;exact h l hl x.t (.inl (dO.2 ⟨x,(By.1 hx).1,rfl⟩))
 .unfold kS at hm;obtain⟨x,hx,rfl⟩:=Db.1 hm;exact h l hl x.t (.inr (dO.2 ⟨x,Cg hx,rfl⟩))
theorem zF(hg:aT ls=0)(h:fE N ls)(hN:N<=20):eZ (eW (gW ls))=0:=by
 have hin:=fun e (he:e∈eW (gW ls))=>aK3 hg h (wQ.1 he);have hs:=bK7 (gW ls);unfold yS at hs;have hp:((eW (gW ls)).map fun e=>e.t*20+e.m).Nodup:=by rw[List.Nodup,Gc];refine List.Pairwise.imp_of_mem (fun{a b} ha hb hlt=>?_) hs;obtain⟨⟨_,_⟩,⟨a3,a4⟩,_⟩:=hin a ha;obtain⟨⟨_,_⟩,⟨b3,b4⟩,_⟩:=hin b hb;rcases rY.1 hlt with h1|⟨h1,h2⟩<;>omega
 have hl:=vD 400 21 _ hp (fun x hx=>by obtain⟨e,he,rfl⟩:=Db.1 hx;obtain⟨⟨_,_⟩,⟨_,_⟩,_⟩:=hin e he;omega)
 rw[List.length_map]at hl;unfold eZ;rw[if_neg (by omega),if_neg];intro ha;obtain⟨e,he,hb⟩:=Ct.1 ha;obtain⟨⟨_,_⟩,⟨_,_⟩,hne,_⟩:=hin e he;unfold mC inB at hb;simp at hb;omega
theorem bC7{t:Int}(hg:aT ls=0)(h:fE N ls)(hN:N<=20)(ht:inB t 1 999=A')(hc:¬(fP (prE (eW (gW ls))) t).length=0):
  ∃v,(iG (fP (prE (eW (gW ls))) t) sys).1=v/\1<=v/\v<=N/\aT (jQ ls v)=0/\fE N (jQ ls v)/\(cI (jQ ls v)).length<(cI ls).length:=by
 have hf:=zF hg h hN;have hT:sH (eW (gW ls)) t=0:=by unfold sH;rw[hf,ht];rfl
 obtain⟨_,_,_,h4,_⟩:=bB8 hT hc;generalize fP (prE (eW (gW ls))) t=cyc at*;have hw:∀v∈cyc,iB ls v=A':=by intro v hv;obtain⟨i,hi,rfl⟩:=Cy.1 hv;have h5:=h4 i hi;have:=(aK3 hg h (wQ.1 h5)).2.2.2;simpa[List.getD,hi]using this
 have hin:∀v∈cyc,inB v 1 999=A':=by intro v hv;have:=vW h (hw v hv);unfold inB;simp;omega
 have h6:=bI3 (cZ8 (sys:=sys) (by omega) hin);have h7:oI cyc sys∈cyc:=by simpa using h6.2.1
 have h8:=hw _ h7;obtain⟨h9,h10⟩:=vW h h8;exact⟨_,bI4 cyc sys hin,h9,h10,aD5 hg _,vB hg h _,aH4 hg h8⟩
theorem bF0(hg:aT ls=0){t:Int}(h:eH ls t<0):iB ls t=F':=by
 rcases sW ls t with h1|⟨x,hx,hq⟩
 .exact(sX h1).1
 .have:=(bA1 (eT hg).2 hx hq).2;have h2:=(lB hg hx).2;omega
theorem aU2(h:fE N ls)(r:Int):fE N (bQ r ls):=by
 unfold bQ;split
 .exact h
 .intro l hl t ht;rw[Aj,Aj]at hl;rcases hl with(hl|hl)|hl
  .exact h l (Cg hl) t ht
  .rw[Cp.1 hl]at ht;rcases ht with h1|h1<;>cases h1
  .exact h l (Cz hl) t ht
theorem bE7(h2:cS l.hs=F')(h:∀v,aV l.hs v=A'\/aV l.qs v=A'->1<=v/\v<=N){t m:Int}(ht:1<=t/\t<=N):∀v,aV (cR l t m).2.2.hs v=A'\/aV (cR l t m).2.2.qs v=A'->1<=v/\v<=N:=by
 intro v hv;have hE:∀k (x:Hold),x.t=t->aV (dV l k x).2.2.hs v=A'\/aV (dV l k x).2.2.qs v=A'->1<=v/\v<=N:=by
  intro k x hx;unfold dV;split
  .exact h v
  .intro h3;simp only at h3;rcases h3 with h3|h3
   .exact h v (.inl h3)
   .obtain⟨y,hy,e⟩:=dO.1 h3;rw[Aj,Aj]at hy;rcases hy with(hy|hy)|hy
    .exact h v (.inr (dO.2 ⟨y,Cg hy,e⟩))
    .rw[Cp.1 hy,hx]at e;omega
    .exact h v (.inr (dO.2 ⟨y,Cz hy,e⟩))
 unfold cR at hv;split at hv
 .exact h v hv
 .split at hv
  .exact hE _ _ rfl hv
  .split at hv
   .exact hE _ _ rfl hv
   .split at hv
    .exact h v hv
    .simp only at hv;rw[tV h2,Dy]at hv;rcases hv with(hv|hv)|hv
     .exact h v (.inl hv)
     .simp at hv;omega
     .exact h v (.inr hv)
theorem bY8{t r m:Int}(hg:aT ls=0)(h:fE N ls)(hN:N<=20)(ht:1<=t/\t<=N)(hr:inB r 0 100=A')(hm:inB m 1 5=A')(hw:eH ls t<0)(h0:(jB ls t r m).1=0):
  aT (jB ls t r m).2.2=0/\fE N (jB ls t r m).2.2/\dS (jB ls t r m).2.2<=5000:=by
 have hc:(lQ ls t r m).2.1=0:=by
  unfold jB at h0;split at h0
  .exact h0
  .rename_i h1;simpa using h1
 have he:(jB ls t r m).2.2=gV ls t r m:=by unfold jB;rw[hc];rfl
 have ht':inB t 1 999=A':=by unfold inB;simp;omega
 rw[he];refine⟨cP1 hg ht' hr hm (bF0 hg hw) hc,?_,bL4 hg t r m⟩;have hW:=aU2 h r;intro l hl v hv;unfold gV at hl;rcases List.mem_or_eq_of_mem_set hl with h1|rfl
 .exact hW l h1 v hv
 .unfold lQ at hv;have hx:(∃x∈bQ r ls,aI (bQ r ls) (aX r ls)=x)\/aI (bQ r ls) (aX r ls)=Lock.zero:=by
   by_cases hk:aX r ls<(bQ r ls).length
   .exact .inl ⟨_,Ce hk,by simp[aI,List.getD,hk]⟩
   .exact .inr (by simp[aI,List.getD,hk])
  have h2:cS (aI (bQ r ls) (aX r ls)).hs=F':=by
   rcases hx with⟨x,hx,e⟩|e
   .rw[e];unfold bQ at hx;split at hx
    .exact(fU (lB hg hx).1).2.2.2.2.1
    .rw[Aj,Aj]at hx;rcases hx with(hx|hx)|hx
     .exact(fU (lB hg (Cg hx)).1).2.2.2.2.1
     .rw[Cp.1 hx];rfl
     .exact(fU (lB hg (Cz hx)).1).2.2.2.2.1
   .rw[e];rfl
  refine bE7 h2 (fun v hv=>?_) ht v hv;rcases hx with⟨x,hx,e⟩|e
  .rw[e]at hv;exact hW x hx v hv
  .rw[e]at hv;rcases hv with h3|h3<;>cases h3
theorem bB9(ls:List (List Row))(key:Int):aW (fD ls key)<=aW ls:=by
 unfold fD aW;induction ls with
 |nil=>simp
 |cons l ls ih=>
  have h:=Dt (dX key) l;rw[Ef,Dh];split
  .simp only[Ef,List.sum_cons,List.length_cons]at*;omega
  .simp only[Ef,List.sum_cons,List.length_cons]at*;omega
theorem bG2{ls:List (List Row)}(h:aL ls=0):aW (aE6 ls.flatten)<=10000:=by
 have h1:=oK h;have h2:ls.flatten.length<=1000:=by rw[List.length_flatten];unfold aW at h1;omega
 have h3:∀(xs:List Nat),((xs.map (gR ls.flatten)).map List.length).sum<=xs.length*4:=by
  intro xs;induction xs with
  |nil=>simp
  |cons x xs ih=>
   have:(gR ls.flatten x).length<=4:=by unfold gR;simp;omega
   simp only[Ef,List.sum_cons,List.length_cons]at*;omega
 have h4:=h3 (List.range (wP ls.flatten));unfold aE6 aW;rw[List.length_map,List.length_range]at*;have:wP ls.flatten<=1003:=by unfold wP;omega
 omega
theorem cX8{q:Int}(h:aF k p q v=0):(k=2->(⟨p,A',v⟩:Bf).fault=0)/\(k=3->(⟨p,F',0⟩:Bf).fault=0):=by
 constructor
 .rintro rfl;unfold aF at h;simp only[show ¬((2:Int)=1\/(2:Int)=3\/(2:Int)=8)by omega,if_false,Fl]at h;split at h
  .cases h
  .split at h
   .cases h
   .rename_i h1 h2
    unfold Bf.fault;simp at h1 h2;simp[h1,h2]
 .rintro rfl;unfold aF at h;cases hin:inB p 0 99
  .simp[hin]at h
  .unfold Bf.fault;have h2:=fT hin;simp[inB];omega
def ddD(j:Nat):Nat:=match j with|4=>48|6=>50|_=>51
def ddE:List Nat:=[4,6,7]
def ddP(j:Nat):List Nat:=match j with|7=>[4,6]|_=>[]
theorem aJ6:(ddE.all fun i=>ddE.all fun j=>ddD i !=ddD j||i==j)=A':=by kernel_rfl
theorem bM4:ddE.Nodup:=by decide
def DdR(la:Option Addr)(ln lc:Nat)(p:Int)(ls:List (List Row))(j:Nat)(v:Value)(T:Nat->Nat)(w:World):Prop:=match j with
 |4=>v=Z la ln lc
 |6=>v=I J p
 |_=>∃a m c,v=Z a m c/\LvAt (gU (Ice T) w) a m ls
theorem DdR.mono(la:Option Addr)(ln lc:Nat)(p:Int)(ls:List (List Row)):∀j v T T' w w',DdR la ln lc p ls j v T w->(∀k,Kp k T T' w w')->w.heap.size<=w'.heap.size->DdR la ln lc p ls j v T' w':=by
 intro j v T T' w w' h hk _;unfold DdR at*;split at h
 .exact h
 .exact h
 .obtain⟨a,m,c,h1,h2⟩:=h;exact⟨a,m,c,h1,h2.sub (eE (hk 0))⟩
theorem dC6(k p q v tx:Int)(i:Nat)(w:World)(T:Nat->Nat)(b o:Nat)(cs:Array Value)(t:TypeId)(s:EgS)(e:Eng)(h:EgX w T b o cs t s e)(hi:i<s.tn)(htx:tx=(i:Int)+1)(ht:inB tx 1 999=A')(hlv:aL e.lv=0)(hlk:aT e.lk=0)(hbf:cY (aS e.tx i).un=0)(hop:aF k p q v=0)(hon:s.sn+s.on+1000<=4100000)(hxn:s.xn+400<=1048575)(hmn:s.mn+1<=1048576):
  Calls prog 188 #[.pointer (Y ⟨b,o,O⟩),I J tx,U #[I J k,I J p,I J q,I J v]] w (dQ1 T w b o cs t s e):=by
 have hbA:V' w (w.alloc (M #[I J k,I J p,I J q,I J v] 54)):=(Aa _ _).alloc z' _;have hXA:=h.below hbA 8;have hSA:=Stp.below (T:=T) o cs hbA 8;have o0:(w.alloc (M #[I J k,I J p,I J q,I J v] 54)).heap[w.heap.size]? =Y (M #[I J k,I J p,I J q,I J v] 54 (0,0)):=aP rfl;obtain⟨HS2,HS3⟩:=cX8 hop;have HL:=h.own.lv.len;have hne:∀k,k<s.ln->(e.lv.getD k []).length≠0:=fun k hk=>(fY hlv k (by have:=HL.out;omega)).1;have SF:=fun W hW=>tL s.la s.ln s.lc p e.lv W hW h.own.n2 hne;have SD:=fun W hW=>bH6 s.la s.ln s.lc p e.lv W hW h.own.n2;have SP:=fun W hW=>cG5 s.la s.ln s.lc e.lv W hW h.own.n2 hne;have SO:=fun W hW=>aN2 s.la s.ln s.lc e.lv W hW h.own.n2 hlv;have zd:aW (fD e.lv p)<=1048576:=Ak (bB9 _ _) h.own.n2;have zp:aW (aE6 e.lv.flatten)<=1048576:=by have:=bG2 hlv;omega
 have HTX:=hid htx;clear hop h hne HL htx;go_enter func188,ntmps188
 go_upto_region 2 with fail
 generalize w.alloc (M #[I J k,I J p,I J q,I J v] 54)=WA at*;generalize hTA:mrk T w.heap.size 8=TA at*;generalize hg0:w.heap.size=g0 at o0;obtain⟨c0,c1,c2,c3⟩:=(iO o0).1;have hol:=aD c0;have hbl:=hXA.lt;clear hbA hg0 hTA o0;by_cases k2:k=2
 .subst k2;go_wp2_with fail
  refine(aW6 tx p A' v i _ _ b o _ t _ _ hXA hi HTX.out ht hlv hbf (by omega) (by omega) (HS2 Cm)).mono ?_;rintro r W2⟨c,T2,cs2,s2,e2,rfl,hX2,hS2,hF2,hc2⟩;go_wp2;go_ret;exact⟨c,T2,cs2,s2,e2,rfl,hX2,hSA.trans hS2,hF2,hc2⟩
 have e2:(k==2)=F':=by simpa using k2
 by_cases k3:k=3
 .subst k3;go_wp2_with fail
  refine(aW6 tx p F' 0 i _ _ b o _ t _ _ hXA hi HTX.out ht hlv hbf (by omega) (by omega) (HS3 Cm)).mono ?_;rintro r W2⟨c,T2,cs2,s2,e2,rfl,hX2,hS2,hF2,hc2⟩;go_wp2;go_ret;exact⟨c,T2,cs2,s2,e2,rfl,hX2,hSA.trans hS2,hF2,hc2⟩
 have e3:(k==3)=F':=by simpa using k3
 obtain⟨_,x1,_,_,_,_,x6,_,_,_⟩:=hXA.all;have fr1:=hXA.frz (o+1);have hLA:=hXA.own.lv.sub fK;by_cases k8:k=8
 .subst k8;go_upto_region 7 with fail
  refine R0 (fun W'=>W'.cell? ⟨b,o+1,O⟩=Y (Z s.la s.ln s.lc)/\W'.cell? ⟨g0,1,O⟩=Y (I J p)) ⟨x1,c1⟩ (fun hH=>?_);refine R5 0 1 2 3 4 ?_;refine R1 5 ?_;refine Dr (rs:=[6,10]) (by kernel_rfl) (by simp) ?_;refine Bi rfl (fun K hK=>?_) (Bi rfl (fun K hK=>?_) Dk);focus
   go_simp;refine(SF _ (hLA.below ((Aa _ _).drew))).mono ?_;rintro r W2⟨⟨rk,rv,rg⟩,ok,rfl,_,hb2⟩;replace hb2:V' WA W2:=⟨hb2.os,hb2.tape,hb2.output,hb2.size,hb2.block⟩
   refine hK.out _ _ ⟨keep_cell hb2 x1,keep_cell hb2 c1⟩ (fun hH=>?_);clear hK K;refine R3 7 8 9 ?_;have hbA:V' W2 (W2.alloc (M #[I J 0,I J 0,X F'] 86)):=(Aa _ _).alloc z' _;have hBB:=hb2.trans (hbA.mono hb2.size);have hg:(W2.alloc (M #[I J 0,I J 0,X F'] 86)).heap[W2.heap.size]? =Y (M #[I J 0,I J 0,X F'] 86 (0,0)):=aP rfl;have hgw:=hb2.size;refine R6 10 (fun K hK=>?_);go_simp;refine hK.out _ _ ⟨keep_cell hBB x1,keep_cell hBB c1⟩ (fun hH=>?_);clear hK K hbA;generalize W2.alloc (M #[I J 0,I J 0,X F'] 86)=W at*;generalize W2.heap.size=g at*;have q0:W.cell? ⟨g,0,O⟩=_:=Ai _ g 0 _ _ _ hg;have q1:W.cell? ⟨g,1,O⟩=_:=Ai _ g 1 _ _ _ hg;have q2:W.cell? ⟨g,2,O⟩=_:=Ai _ g 2 _ _ _ hg;have f0:=An _ g 0 _ _ hg;have f1:=An _ g 1 _ _ hg;have f2:=An _ g 2 _ _ hg;have h0:=Ag W g 0 _ _ (I J rk) hg;have h1:=Ag _ g 1 _ _ (I J rv) h0;have h2:=Ag _ g 2 _ _ (X rg) h1;have hgr:W.grownBy (((W.setCell ⟨g,0,O⟩ (I J rk)).setCell ⟨g,1,O⟩ (I J rv)).setCell ⟨g,2,O⟩ (X rg)) (Y g):=cM (cM iI);have hBR:V' WA (((W.setCell ⟨g,0,O⟩ (I J rk)).setCell ⟨g,1,O⟩ (I J rv)).setCell ⟨g,2,O⟩ (X rg)):=cK hBB hgr (fun k hk=>by cases hk;exact hgw) hBB.size;refine R6 11 (fun K hK=>?_);go_simp;refine hK.out _ _ ⟨keep_cell hBR x1,keep_cell hBR c1⟩ (fun hH=>?_);clear hK K;refine R1 12 ?_;refine R7 ?_;have hrr:(((W.setCell ⟨g,0,O⟩ (I J rk)).setCell ⟨g,1,O⟩ (I J rv)).setCell ⟨g,2,O⟩ (X rg)).heap[g]? =Y (M #[I J rk,I J rv,X rg] 86 (0,0)):=h2;generalize((W.setCell ⟨g,0,O⟩ (I J rk)).setCell ⟨g,1,O⟩ (I J rv)).setCell ⟨g,2,O⟩ (X rg)=WR at*;clear hgr h0 h1 h2 q0 q1 q2 f0 f1 f2 hg hBB hgw hH
  rotate_left;focus
   have hbA:V' WA (WA.alloc (M #[I J 0,I J 0,X F'] 86)).drew:=((Aa _ _).alloc z' _).drew;have hg1:(WA.alloc (M #[I J 0,I J 0,X F'] 86)).drew.heap[WA.heap.size]? =Y (M #[I J 0,I J 0,X F'] 86 (0,0)):=aP rfl;go_simp;refine hK.out _ _ ⟨keep_cell hbA x1,keep_cell hbA c1⟩ (fun hH=>?_);clear hK K;generalize hWB:(WA.alloc (M #[I J 0,I J 0,X F'] 86)).drew=WB at*;clear hWB;obtain⟨g,hgE⟩:∃g,WA.heap.size=g:=⟨_,rfl⟩
   have hgw:WA.heap.size<=g:=by omega
   simp only[hgE]at hg1⊢;clear hgE;refine R6 6 (fun K hK=>?_);go_simp;refine(SF _ (hLA.below hbA)).mono ?_;rintro r W⟨⟨rk,rv,rg⟩,ok,rfl,_,hb2⟩;have hBB:=hbA.trans (hb2.mono hbA.size);have hg:=aR hb2 hg1;refine hK.out _ _ ⟨keep_cell hBB x1,keep_cell hBB c1⟩ (fun hH=>?_);clear hK K;refine R3 7 8 9 ?_;have q0:W.cell? ⟨g,0,O⟩=_:=Ai _ g 0 _ _ _ hg;have q1:W.cell? ⟨g,1,O⟩=_:=Ai _ g 1 _ _ _ hg;have q2:W.cell? ⟨g,2,O⟩=_:=Ai _ g 2 _ _ _ hg;have f0:=An _ g 0 _ _ hg;have f1:=An _ g 1 _ _ hg;have f2:=An _ g 2 _ _ hg;have h0:=Ag W g 0 _ _ (I J rk) hg;have h1:=Ag _ g 1 _ _ (I J rv) h0;have h2:=Ag _ g 2 _ _ (X rg) h1;have hgr:W.grownBy (((W.setCell ⟨g,0,O⟩ (I J rk)).setCell ⟨g,1,O⟩ (I J rv)).setCell ⟨g,2,O⟩ (X rg)) (Y g):=cM (cM iI);have hBR:V' WA (((W.setCell ⟨g,0,O⟩ (I J rk)).setCell ⟨g,1,O⟩ (I J rv)).setCell ⟨g,2,O⟩ (X rg)):=cK hBB hgr (fun k hk=>by cases hk;exact hgw) hBB.size;refine R6 11 (fun K hK=>?_);go_simp;refine hK.out _ _ ⟨keep_cell hBR x1,keep_cell hBR c1⟩ (fun hH=>?_);clear hK K;refine R1 12 ?_;refine R7 ?_;have hrr:(((W.setCell ⟨g,0,O⟩ (I J rk)).setCell ⟨g,1,O⟩ (I J rv)).setCell ⟨g,2,O⟩ (X rg)).heap[g]? =Y (M #[I J rk,I J rv,X rg] 86 (0,0)):=h2;generalize((W.setCell ⟨g,0,O⟩ (I J rk)).setCell ⟨g,1,O⟩ (I J rv)).setCell ⟨g,2,O⟩ (X rg)=WR at*;clear hgr h0 h1 h2 q0 q1 q2 f0 f1 f2 hg hBB hgw hH
  all_goals
   have hXR:=hXA.below hBR 8;have hSR:=hSA.trans (Stp.below (T:=TA) o cs hBR 8);have c1:=keep_cell hBR c1;obtain⟨r0,r1,r2⟩:=tA hrr;have hbl:=hXR.lt;have hLR:=hXR.own.lv.sub fK;have hol:=aD c1;have hrl:=aD r0;clear hBR hrr hLA;cases ok
   .go_wp2;go_ret;exact⟨0,_,_,s,e,rfl,hXR,hSR,EgF.refl s,fun h0=>absurd rfl h0⟩
   .cases rg
    .go_wp2;go_ret;exact⟨0,_,_,s,e,rfl,hXR,hSR,EgF.refl s,fun h0=>absurd rfl h0⟩
    .go_upto_region 9 with fail
     refine R0 (fun _=>True) Cm (fun hH=>?_);refine R5 0 1 2 3 5 ?_;refine sF (d:=ddD) (E:=ddE) (L1:=#[A',A',A',A',A',A',A',A',F',F',F']) (fuel1:=3) (pre:=ddP) (R:=DdR s.la s.ln s.lc p (fD e.lv p)) (Bs:=fun T'' W=>V' WR W/\EgX W T'' b o cs t s e/\Stp (mrk TA WA.heap.size 8) T'' WR W o cs cs) aJ6 bM4 (by kernel_rfl) (by kernel_rfl) (by kernel_rfl) (by kernel_rfl) (by kernel_rfl) (by kernel_rfl) (by kernel_rfl) (DdR.mono s.la s.ln s.lc p (fD e.lv p)) ?bs ?step ?last (mrk TA WA.heap.size 8) ?init;case init=>exact⟨(Aa _ _).drew,hXR.drew,Stp.drew _ _ _ _⟩
     case bs=>exact fun _ _ _=>Cm
     case step=>
      intro i hi vs T' W hB hp;obtain⟨hB0,hB1,hB2⟩:=hB;have hB:=And.intro hB0 (And.intro hB1 hB2);have x1:=hB1.all.2.1;have c1:=keep_cell hB0 c1;have hLW:=hLR.below hB0;unfold ddE at hi;simp only[Am,Cu,Eh]at hi;rcases hi with rfl|rfl|rfl
      .refine kP ⟨Y 48,.load 61 (.tmp 47),_,_,_,O⟩ (Z s.la s.ln s.lc) (by rfl) aJ6 bM4 (by kernel_rfl) rfl ?_ ?_
       .intro ev h1 h2;have s1:ev (.tmp 47)= .pointer (Y ⟨b,o+1,O⟩):=(h2 47 (by kernel_rfl)).trans rfl;clear h1 h2;go_simp
       .exact⟨_,T',rfl,rfl,fun k=>Kp.refl k T' W,z',hB⟩
      .refine kP ⟨Y 50,.load 2 (.tmp 49),_,_,_,O⟩ (I J p) (by rfl) aJ6 bM4 (by kernel_rfl) rfl ?_ ?_
       .intro ev h1 h2;have s1:ev (.tmp 49)= .pointer (Y ⟨g0,1,O⟩):=(h2 49 (by kernel_rfl)).trans rfl;clear h1 h2;go_simp
       .exact⟨_,T',rfl,rfl,fun k=>Kp.refl k T' W,z',hB⟩
      .have e3:vs 4=Z s.la s.ln s.lc:=hp 4 (by simp[ddP]);have e5:vs 6=I J p:=hp 6 (by simp[ddP]);refine Dq rfl (fun K hK=>?_);refine qP (xs:=#[.tmp 48,.tmp 50]) (vs:=#[Z s.la s.ln s.lc,I J p]) rfl rfl ?_ (by go_simp) ?_
       .exact dP1 ((mX ddD vs 4 ddE _ aJ6 bM4 (by decide) (by kernel_rfl)).trans e3) ((mX ddD vs 6 ddE _ aJ6 bM4 (by decide) (by kernel_rfl)).trans e5)
       .refine(SD _ hLW).mono ?_;rintro r W2⟨a3,m3,c3',rfl,hO3,hb⟩;exact⟨_,rfl,hK _ _ ⟨_,mrk T' W.heap.size 0,rfl,⟨a3,m3,c3',rfl,OwnLv.seen hO3 (fun i=>by have:=fI zd i;omega) (jR _ _)⟩,fun k=>aY hb T' 0 k,hb.size,hB0.trans (hb.mono hB0.size),hB1.below hb 0,hB2.trans (Stp.below o cs hb 0)⟩⟩
     case last=>intro vs T2 W hB hR';obtain⟨_,hB1,hB2⟩:=hB;have e3:vs 4=Z s.la s.ln s.lc:=hR' 4 (by simp[ddE]);have e5:vs 6=I J p:=hR' 6 (by simp[ddE]);obtain⟨a3,m3,c3',e7,hL3⟩:=hR' 7 (by simp[ddE]);clear hR';dsimp only[eB,ddE,List.foldl];simp only[Act.put,ddD,Bh,List.set_cons_zero,List.set_cons_succ];rw[e3,e5,e7];clear e3 e5 e7 vs;have hset:=EgX.set (i:=1) (v:=Z a3 m3 c3') hB1.box hB1.cell hB1.tag (hB1.own.newLv (c:=c3') hL3 zd) (by decide) rfl;have y1:=hB1.all.2.1;have f1:=hB1.frz (o+1);refine R2 8 9 ?_;refine R6 10 (fun K hK=>?_);go_simp;refine hK.out _ _ Cm (fun hH=>?_);clear hK K;refine R7 ?_;go_wp2;go_ret;exact⟨0,_,_,_,_,rfl,hset.1,(hSR.trans hB2).trans hset.2,⟨rfl,by(try simp only);omega,by(try simp only);omega,by(try simp only);omega,z'⟩,fun h0=>absurd rfl h0⟩
 have e8:(k==8)=F':=by simpa using k8
 by_cases k9:k=9
 .subst k9;go_wp2_with fail
  refine(SP _ hLA).mono ?_;rintro r W3⟨a3,m3,c3',rfl,hO3,hb3⟩;have hX3:=hXA.below hb3 0;have hS3:=hSA.trans (Stp.below o cs hb3 0);have hset:=EgX.set (i:=1) (v:=Z a3 m3 c3') hX3.box hX3.cell hX3.tag (hX3.own.newLv (c:=c3') (OwnLv.seen hO3 (fun i=>by have:=fI zp i;omega) (jR _ _)) zp) (by decide) rfl;have y1:=hX3.all.2.1;have f3:=hX3.frz (o+1);have hbl3:=hX3.lt;go_wp2;go_ret;exact⟨0,_,_,_,_,rfl,hset.1,hS3.trans hset.2,⟨rfl,by(try simp only);omega,by(try simp only);omega,by(try simp only);omega,z'⟩,fun h0=>absurd rfl h0⟩
 have e9:(k==9)=F':=by simpa using k9
 by_cases k10:k=10
 .subst k10;go_wp2_with fail
  refine(SO _ hLA).mono ?_;rintro r W3⟨a3,m3,c3',rfl,hm3,hO3,hb3⟩;have hX3:=hXA.below hb3 0;have hS3:=hSA.trans (Stp.below o cs hb3 0);have hset:=EgX.set (i:=6) (v:=Z (Y ⟨a3,0,O⟩) m3 c3') hX3.box hX3.cell hX3.tag (hX3.own.newIx (c:=c3') (lH hO3 (jR _ _)) (by omega)) (by decide) rfl;have y6:=hX3.all.2.2.2.2.2.2.1;have f3:=hX3.frz (o+6);have hbl3:=hX3.lt;go_upto_region 14 with fail
  have hX4:=hset.1;have hS4:=hS3.trans hset.2;clear hset y6 f3 hbl3;generalize W3.setCell ⟨b,o+6,O⟩ (Z (Y ⟨a3,0,O⟩) m3 c3')=W4 at*;have y7:=hX4.all.2.2.2.2.2.2.2.1;have f4:=hX4.frz (o+7);have hbl4:=hX4.lt;have hE:EgO W4 0 _ {s with xa:=Y ⟨a3,0,O⟩,xn:=m3,xc:=c3'} {({e with ix:=rD e.lv}:Eng)with bt:=A'}:=⟨hX4.own.base,hX4.own.lv,hX4.own.lk,hX4.own.ix,hX4.own.tx,hX4.own.su,hX4.own.lo,hX4.own.cm,hX4.own.ac,hX4.own.bsu,hX4.own.blo,hX4.own.n1,hX4.own.n2,hX4.own.n3,hX4.own.n4,hX4.own.n5,hX4.own.n6,hX4.own.n7,hX4.own.n8,hX4.own.n9⟩
  have hset:=EgX.set (i:=7) (v:=X A') hX4.box hX4.cell hX4.tag hE (by decide) rfl;go_wp2;go_ret;exact⟨0,_,_,_,_,rfl,hset.1,hS4.trans hset.2,⟨rfl,by(try simp only);omega,by(try simp only);omega,by(try simp only);omega,z'⟩,fun h0=>absurd rfl h0⟩
 have e10:(k==10)=F':=by simpa using k10
 by_cases k6:k=6
 .subst k6;go_wp2_with fail
  refine(bC1 tx i _ _ b o _ t _ _ hXA hi HTX.out ht hlk (by omega) hmn).mono ?_;rintro r W2⟨rfl,T2,cs2,s2,e2,hX2,hS2,hF2⟩;go_wp2;go_ret;exact⟨0,T2,cs2,s2,e2,rfl,hX2,hSA.trans hS2,hF2,fun h0=>absurd rfl h0⟩
 have e6:(k==6)=F':=by simpa using k6
 by_cases k7:k=7
 .subst k7;go_wp2_with fail
  refine(aK6 tx i _ _ b o _ t _ _ hXA hi HTX.out ht hlv hlk hbf (by omega) (by omega)).mono ?_;rintro r W2⟨rfl,T2,cs2,s2,e2,hX2,hS2,hC2,_⟩;go_wp2;go_ret;exact⟨0,T2,cs2,s2,e2,rfl,hX2,hSA.trans hS2,⟨hC2.tn,by have:=hC2.on;have:=hC2.sn;omega,by have:=hC2.mn;omega,by have:=hC2.xn;omega,by have:=hC2.an;omega⟩,fun h0=>absurd rfl h0⟩
 have e7:(k==7)=F':=by simpa using k7
 go_wp2;go_ret;exact⟨0,_,_,s,e,rfl,hXA,hSA,EgF.refl s,fun h0=>absurd rfl h0⟩
theorem EgX.out(h:EgX w T b o cs t s e)(j:Nat)(v:Value)(hj:j<o\/o+10<=j):
  EgX (w.setCell ⟨b,j,O⟩ v) T b o (cs.setIfInBounds j v) t s e/\∀k,k≠1->Kp k T T w (w.setCell ⟨b,j,O⟩ v):=by
 have hk:∀k,k≠1->Kp k T T w (w.setCell ⟨b,j,O⟩ v):=fun k hk=>kL h.tag hk;refine⟨⟨h.own.kept (fun k h1 _=>hk k h1),Ag w b j cs t v h.box,fun i hi=>?_,h.tag⟩,hk⟩;rw[Au (by omega)];exact h.cell i hi
theorem EgX.grown8(h:EgX w T b o cs t s e)(hg:w.grownBy w' row)(hr:∀g,row=Y g->T g=8):EgX w' (mrk T w.heap.size 8) b o cs t s e:=by have hk:∀k,k≠8->Kp k T (mrk T w.heap.size 8) w w':=fun k hk=>dF hg hr hk;obtain⟨h4,h5⟩:=bJ h.box h.tag (hk 1 (by decide));exact⟨h.own.kept (fun k _ h8=>hk k h8),h4,h.cell,h5⟩
structure Past(w0:World)(T:Nat->Nat)(w:World):Prop where
 bel:V' w0 w
 old:∀x,x<w0.heap.size->T x=8
theorem Past.below(h:Past w0 T w)(hb:V' w w')(j:Nat):Past w0 (mrk T w.heap.size j) w':=
 ⟨h.bel.trans (hb.mono h.bel.size),fun x hx=>by rw[dR (by have:=h.bel.size;omega)];exact h.old x hx⟩
theorem Past.stp(h:Past w0 T w)(hs:Stp T T' w w' o cs cs'):Past w0 T' w':=by
 have hz:=h.bel.size;refine⟨⟨hs.os.trans h.bel.os,hs.tape.trans h.bel.tape,hs.output.trans h.bel.output,Ak h.bel.size hs.size,fun x hx=>?_⟩,fun x hx=>?_⟩
 .exact(hs.k8 x (by omega) (h.old x hx)).1.trans (h.bel.block x hx)
 .exact(hs.k8 x (by omega) (h.old x hx)).2
theorem Past.set{j:Nat}{v:Value}(h:Past w0 T w)(hb:w0.heap.size<=b):Past w0 T (w.setCell ⟨b,j,O⟩ v):=⟨h.bel.setCell hb _,h.old⟩
theorem Past.grown(h:Past w0 T w)(hg:w.grownBy w' row)(hr:∀g,row=Y g->w0.heap.size<=g)(j:Nat):Past w0 (mrk T w.heap.size j) w':=
 ⟨cK h.bel hg hr h.bel.size,fun x hx=>by rw[dR (by have:=h.bel.size;omega)];exact h.old x hx⟩
theorem Past.drew(h:Past w0 T w):Past w0 T w.drew:=⟨h.bel.drew,h.old⟩
theorem EgX.ge(h:EgX w T b o cs t s e)(hp:Past w0 T w):w0.heap.size<=b:=by
 rcases Cd b w0.heap.size with hlt|hge
 .have h1:=hp.old b hlt;have h2:=h.tag;omega
 .exact hge
structure Ch.Fair(N:Nat)(e:Ch.Eng):Prop where
 lv:aL e.lv=0
 lk:aT e.lk=0
 nm:fE N e.lk
 tl:e.tx.length=N
 tn:N<=20
 un:∀k,k<N->cY (aS e.tx k).un=0
theorem cT4:cY []=0:=rfl
structure EgZ(d:Nat)(s0 s:EgS):Prop where
 tn:s.tn=s0.tn
 sn:s.sn=s0.sn
 mn:s.mn=s0.mn
 on:s.on<=s0.on+d*451
 xn:s.xn<=s0.xn+d*41
 an:s.an<=s0.an+d
theorem EgZ.refl(s:EgS):EgZ 0 s s:=⟨rfl,rfl,rfl,by omega,by omega,by omega⟩
theorem EgZ.more{d:Nat}{s0:EgS}(h:EgZ d s0 s)(hc:EgC 1 1 s s' e e'):EgZ (d+1) s0 s':=
 ⟨hc.tn.trans h.tn,hc.sn.trans h.sn,hc.mn.trans h.mn,by have:=h.on;have:=hc.on;omega,by have:=h.xn;have:=hc.xn;omega,by have:=h.an;have:=hc.an;omega⟩
theorem Ch.Fair.gone(h:Ch.Fair N e)(hc:EgC 1 1 s s' e e')(hl:e'.lk=(dN e.lk v).filter iF):Ch.Fair N e':=by
 have hl':e'.lk=jQ e.lk v:=hl;refine⟨hc.lv,by rw[hl'];exact aD5 h.lk v,by rw[hl'];exact vB h.lk h.nm v,hc.tl.trans h.tl,h.tn,fun k hk=>?_⟩;rcases hc.un k with h1|h1
 .rw[h1];exact h.un k hk
 .rw[h1];exact cT4
theorem Ch.Good.fair(h:Ch.Good e):Ch.Fair e.tx.length e:=⟨h.lv,h.lk,aU1 h.kn,rfl,h.tn,h.un⟩
theorem cX9{base:Nat}{e:TypeId}{size cap m:Nat}(h:w.ownsRow base e size (Z (Y ⟨g,0,O⟩) n cap) n xs)(hm:m<=n):w.ownsRow base e size (Z (Y ⟨g,0,O⟩) m cap) m (xs.take (m*size)):=by
 obtain⟨hl,h|⟨g',cap',cur,hv,hb,hc,hn,hcap,hs,ht⟩⟩:=h
 .simp at h
 .simp only[Bg,Af,Ap,Cn]at hv;obtain⟨rfl,_,rfl⟩:=hv;have h1:m*size<=n*size:=Nat.mul_le_mul_right _ hm;refine⟨by rw[Ey];omega,.inr ⟨g,cap,cur,rfl,hb,hc,by omega,hcap,hs,?_⟩⟩;rw[<-ht,List.take_take,Nat.min_eq_left h1]
theorem AcO.place{c:Nat}(h:AcO w H T (Z a n c) n ts us)(hn:0<n):∃tb,a=Y ⟨tb,0,O⟩:=by
 obtain⟨hl,⟨cs,hr,hc⟩,_,_⟩:=h;rcases hr.1.2 with⟨_,h0⟩|⟨g,cap,cur,hv,_⟩
 .omega
 .simp only[Bg]at hv;exact⟨g,hv.1⟩
theorem rR(ts:List Ac)(n i:Nat):aM (ts.take n) i=if i<n then aM ts i else Ac.zero:=by
 unfold aM;rw[Bt,Bt,Ez];split
 .rfl
 .rfl
theorem EgX.dropAct(h:EgX w T b o cs t s e)(hn:s.an=n+1):
  EgX (w.setCell ⟨b,o+9,O⟩ (Z s.aa n s.ac)) T b o (cs.setIfInBounds (o+9) (Z s.aa n s.ac)) t {s with an:=n} {e with ac:=e.ac.take n}/\Stp T T w (w.setCell ⟨b,o+9,O⟩ (Z s.aa n s.ac)) o cs (cs.setIfInBounds (o+9) (Z s.aa n s.ac)):=by
 obtain⟨us,hA⟩:=h.own.ac;obtain⟨tb,hp⟩:=hA.place (by omega);have hN:AcO w 0 T (Z s.aa n s.ac) n (e.ac.take n) us:=by
  obtain⟨hl,⟨ys,hr,hc⟩,ha,hf⟩:=hA;rw[hp]at hr⊢;refine⟨by rw[Ey];omega,⟨ys.take (n*6),⟨cX9 hr.1 (by omega),hr.2⟩,fun i j hi hj=>?_⟩,fun i hi=>?_,fun i=>?_⟩
  .rw[Eo (by omega),rR,if_pos hi];exact hc i j (by omega) hj
  .rw[rR,if_pos hi];exact ha i (by omega)
  .rw[rR];split
   .exact hf i
   .show([]:List Int).length<=_;simp
 have hE:=h.own.newAc (fun k _ _ _ _=>Kp.refl k T w) hN (by have:=h.own.n9;omega);exact EgX.set (i:=9) h.box h.cell h.tag hE (by decide) rfl
theorem lW{u0 u1 u2 u3 u4 u5 u6 u7 u8 u9 u10 u11 u12 u13 u14:Value}(v0 v1 v2 v3 v4 v5 v6 v7 v8 v9 v10 v11 v12 v13 v14:Value)(h:W.heap[g]? =Y (M #[u0,u1,u2,u3,u4,u5,u6,u7,u8,u9,u10,u11,u12,u13,u14] t (0,0))):
  (((((((((((((((W.setCell ⟨g,0,O⟩ v0).setCell ⟨g,1,O⟩ v1).setCell ⟨g,2,O⟩ v2).setCell ⟨g,3,O⟩ v3).setCell ⟨g,4,O⟩ v4).setCell ⟨g,5,O⟩ v5).setCell ⟨g,6,O⟩ v6).setCell ⟨g,7,O⟩ v7).setCell ⟨g,8,O⟩ v8).setCell ⟨g,9,O⟩ v9).setCell ⟨g,10,O⟩ v10).setCell ⟨g,11,O⟩ v11).setCell ⟨g,12,O⟩ v12).setCell ⟨g,13,O⟩ v13).setCell ⟨g,14,O⟩ v14).heap[g]? =Y (M #[v0,v1,v2,v3,v4,v5,v6,v7,v8,v9,v10,v11,v12,v13,v14] t (0,0))/\W.grownBy (((((((((((((((W.setCell ⟨g,0,O⟩ v0).setCell ⟨g,1,O⟩ v1).setCell ⟨g,2,O⟩ v2).setCell ⟨g,3,O⟩ v3).setCell ⟨g,4,O⟩ v4).setCell ⟨g,5,O⟩ v5).setCell ⟨g,6,O⟩ v6).setCell ⟨g,7,O⟩ v7).setCell ⟨g,8,O⟩ v8).setCell ⟨g,9,O⟩ v9).setCell ⟨g,10,O⟩ v10).setCell ⟨g,11,O⟩ v11).setCell ⟨g,12,O⟩ v12).setCell ⟨g,13,O⟩ v13).setCell ⟨g,14,O⟩ v14) (Y g):=by
 have h0:=Ag _ g 0 _ t v0 h;rw[show(#[u0,u1,u2,u3,u4,u5,u6,u7,u8,u9,u10,u11,u12,u13,u14]:Array Value).setIfInBounds 0 v0=#[v0,u1,u2,u3,u4,u5,u6,u7,u8,u9,u10,u11,u12,u13,u14]from rfl]at h0;have h1:=Ag _ g 1 _ t v1 h0;rw[show(#[v0,u1,u2,u3,u4,u5,u6,u7,u8,u9,u10,u11,u12,u13,u14]:Array Value).setIfInBounds 1 v1=#[v0,v1,u2,u3,u4,u5,u6,u7,u8,u9,u10,u11,u12,u13,u14]from rfl]at h1;have h2:=Ag _ g 2 _ t v2 h1;rw[show(#[v0,v1,u2,u3,u4,u5,u6,u7,u8,u9,u10,u11,u12,u13,u14]:Array Value).setIfInBounds 2 v2=#[v0,v1,v2,u3,u4,u5,u6,u7,u8,u9,u10,u11,u12,u13,u14]from rfl]at h2;have h3:=Ag _ g 3 _ t v3 h2;rw[show(#[v0,v1,v2,u3,u4,u5,u6,u7,u8,u9,u10,u11,u12,u13,u14]:Array Value).setIfInBounds 3 v3=#[v0,v1,v2,v3,u4,u5,u6,u7,u8,u9,u10,u11,u12,u13,u14]from rfl]at h3;have h4:=Ag _ g 4 _ t v4 h3;rw[show(#[v0,v1,v2,v3,u4,u5,u6,u7,u8,u9,u10,u11,u12,u13,u14]:Array Value).setIfInBounds 4 v4=#[v0,v1,v2,v3,v4,u5,u6,u7,u8,u9,u10,u11,u12,u13,u14]from rfl]at h4;have h5:=Ag _ g 5 _ t v5 h4;rw[show(#[v0,v1,v2,v3,v4,u5,u6,u7,u8,u9,u10,u11,u12,u13,u14]:Array Value).setIfInBounds 5 v5=#[v0,v1,v2,v3,v4,v5,u6,u7,u8,u9,u10,u11,u12,u13,u14]from rfl]at h5;have h6:=Ag _ g 6 _ t v6 h5;rw[show(#[v0,v1,v2,v3,v4,v5,u6,u7,u8,u9,u10,u11,u12,u13,u14]:Array Value).setIfInBounds 6 v6=#[v0,v1,v2,v3,v4,v5,v6,u7,u8,u9,u10,u11,u12,u13,u14]from rfl]at h6;have h7:=Ag _ g 7 _ t v7 h6;rw[show(#[v0,v1,v2,v3,v4,v5,v6,u7,u8,u9,u10,u11,u12,u13,u14]:Array Value).setIfInBounds 7 v7=#[v0,v1,v2,v3,v4,v5,v6,v7,u8,u9,u10,u11,u12,u13,u14]from rfl]at h7;have h8:=Ag _ g 8 _ t v8 h7;rw[show(#[v0,v1,v2,v3,v4,v5,v6,v7,u8,u9,u10,u11,u12,u13,u14]:Array Value).setIfInBounds 8 v8=#[v0,v1,v2,v3,v4,v5,v6,v7,v8,u9,u10,u11,u12,u13,u14]from rfl]at h8;have h9:=Ag _ g 9 _ t v9 h8;rw[show(#[v0,v1,v2,v3,v4,v5,v6,v7,v8,u9,u10,u11,u12,u13,u14]:Array Value).setIfInBounds 9 v9=#[v0,v1,v2,v3,v4,v5,v6,v7,v8,v9,u10,u11,u12,u13,u14]from rfl]at h9;have h10:=Ag _ g 10 _ t v10 h9;rw[show(#[v0,v1,v2,v3,v4,v5,v6,v7,v8,v9,u10,u11,u12,u13,u14]:Array Value).setIfInBounds 10 v10=#[v0,v1,v2,v3,v4,v5,v6,v7,v8,v9,v10,u11,u12,u13,u14]from rfl]at h10;have h11:=Ag _ g 11 _ t v11 h10;rw[show(#[v0,v1,v2,v3,v4,v5,v6,v7,v8,v9,v10,u11,u12,u13,u14]:Array Value).setIfInBounds 11 v11=#[v0,v1,v2,v3,v4,v5,v6,v7,v8,v9,v10,v11,u12,u13,u14]from rfl]at h11;have h12:=Ag _ g 12 _ t v12 h11;rw[show(#[v0,v1,v2,v3,v4,v5,v6,v7,v8,v9,v10,v11,u12,u13,u14]:Array Value).setIfInBounds 12 v12=#[v0,v1,v2,v3,v4,v5,v6,v7,v8,v9,v10,v11,v12,u13,u14]from rfl]at h12;have h13:=Ag _ g 13 _ t v13 h12;rw[show(#[v0,v1,v2,v3,v4,v5,v6,v7,v8,v9,v10,v11,v12,u13,u14]:Array Value).setIfInBounds 13 v13=#[v0,v1,v2,v3,v4,v5,v6,v7,v8,v9,v10,v11,v12,v13,u14]from rfl]at h13;have h14:=Ag _ g 14 _ t v14 h13;rw[show(#[v0,v1,v2,v3,v4,v5,v6,v7,v8,v9,v10,v11,v12,v13,u14]:Array Value).setIfInBounds 14 v14=#[v0,v1,v2,v3,v4,v5,v6,v7,v8,v9,v10,v11,v12,v13,v14]from rfl]at h14;exact⟨h14,cM (cM (cM (cM (cM (cM (cM (cM (cM (cM (cM (cM (cM (cM iI)))))))))))))⟩
def oD(c:Int)(wt:Bool)(id:Int)(x y:Value)(s:EgS)(bt:Bool):Array Value:=#[I J c,X wt,I J id,x,y,Z s.ba s.bn s.bc,Z s.la s.ln s.lc,Z s.ka s.kn s.kc,Z s.ta s.tn s.tc,Z s.sa s.sn s.sc,Z s.oa s.on s.oc,Z s.xa s.xn s.xc,X bt,Z s.ma s.mn s.mc,Z s.aa s.an s.ac]
structure Fore(cs:Array Value)(c:Int)(wt:Bool)(x y:Value):Prop where
 c0:cs[0]? =Y (I J c)
 c1:cs[1]? =Y (X wt)
 c2:cs[2]? =Y (I J 0)
 c3:cs[3]? =Y x
 c4:cs[4]? =Y y
 sz:cs.size=15
theorem Fore.stp(h:Fore cs c wt x y)(hs:Stp T T' w w' 5 cs cs'):Fore cs' c wt x y:=
 ⟨(hs.rest 0 (by omega)).trans h.c0,(hs.rest 1 (by omega)).trans h.c1,(hs.rest 2 (by omega)).trans h.c2,(hs.rest 3 (by omega)).trans h.c3,(hs.rest 4 (by omega)).trans h.c4,hs.same.trans h.sz⟩
theorem Fore.lit(h:Fore cs c wt x y)(hX:EgX W T b 5 cs t s e):cs=oD c wt 0 x y s e.bt:=by
 refine Array.ext_getElem? fun i=>?_;have hc:=fun j hj=>hX.cell j hj;match i with
 |0=>exact h.c0
 |1=>exact h.c1
 |2=>exact h.c2
 |3=>exact h.c3
 |4=>exact h.c4
 |5=>exact hc 0 (by decide)
 |6=>exact hc 1 (by decide)
 |7=>exact hc 2 (by decide)
 |8=>exact hc 3 (by decide)
 |9=>exact hc 4 (by decide)
 |10=>exact hc 5 (by decide)
 |11=>exact hc 6 (by decide)
 |12=>exact hc 7 (by decide)
 |13=>exact hc 8 (by decide)
 |14=>exact hc 9 (by decide)
 |i+15=>rw[Ev (by rw[h.sz];omega),Ev (by simp[oD])]
def EngQ(Q':Nat)(w:World)(r:Ending)(w':World):Prop:=
 ∃c wt id xa xn xc ya yn yc s' bt e' T',r=R' (U (oD c wt id (Z xa xn xc) (Z ya yn yc) s' bt))/\bt=e'.bt/\EgO w' 0 T' s' e'/\Past w T' w'/\s'.mn<=Q'/\s'.tn<=21/\s'.an<=250/\s'.sn+s'.on<=100000
def EgS.none:EgS:=⟨.none,0,0,.none,0,0,.none,0,0,.none,0,0,.none,0,0,.none,0,0,.none,0,0,.none,0,0,.none,0,0⟩
def Ch.Eng.none:Eng:=⟨[],[],[],[],[],[],[],F',[],[]⟩
theorem qK(w:World)(T:Nat->Nat)(k:Nat)(t:TypeId)(sz:Nat):OwnT w H T k t sz (Z .none 0 0) 0 []:=⟨Aw _ _ _ _,fun g hg=>by simp[Value.ownBlock]at hg⟩
theorem EgO.none(w:World)(T:Nat->Nat):EgO w 0 T EgS.none Eng.none:=
 ⟨⟨rfl,fun h=>absurd h (by decide)⟩,⟨rfl,[],⟨rfl,fun h=>absurd h (by decide)⟩,fun i hi=>absurd hi (by simp[EgS.none])⟩,⟨rfl,fun h=>absurd h (by decide)⟩,⟨rfl,fun h=>absurd h (by decide)⟩,
  ⟨fun _=>Z .none 0 0,⟨rfl,⟨[],qK _ _ _ _ _,fun i j hi=>absurd hi (by simp[EgS.none])⟩,fun i hi=>absurd hi (by simp[EgS.none]),fun i=>by simp[aS,Eng.none,Tx.zero]⟩⟩,qK _ _ _ _ _,qK _ _ _ _ _,qK _ _ _ _ _,
  ⟨fun _=>Z .none 0 0,⟨rfl,⟨[],qK _ _ _ _ _,fun i j hi=>absurd hi (by simp[EgS.none])⟩,fun i hi=>absurd hi (by simp[EgS.none]),fun i=>by simp[aM,Eng.none,Ac.zero]⟩⟩,fun i=>by simp[Eng.none],fun i=>by simp[Eng.none],by decide,by decide,by decide,by decide,by decide,by decide,by decide,by decide,by decide⟩
theorem EngQ.bad(Q':Nat)(c:Int)(h:V' w w'):EngQ Q' w (R' (U (eA c))) w':=
 ⟨c,F',0,.none,0,0,.none,0,0,EgS.none,F',Eng.none,fun _=>8,rfl,rfl,EgO.none _ _,⟨h,fun _ _=>rfl⟩,Ad _,by decide,by decide,by decide⟩
theorem EgO.sizes(h:EgO w 0 T s e):s.tn=e.tx.length/\s.sn=e.su.length/\s.on=e.lo.length/\s.xn=e.ix.length/\s.mn=e.cm.length/\s.an=e.ac.length:=by obtain⟨us,ht⟩:=h.tx;obtain⟨vs,ha⟩:=h.ac;have h1:=h.su.1.1;have h2:=h.lo.1.1;have h3:=h.cm.1.1;have h4:=h.ix.1;rw[iJ]at h4;simp only[bts,icells,List.length_map]at h1 h2 h3;exact⟨ht.len.symm,by omega,by omega,by omega,by omega,ha.len.symm⟩
structure Ch.Ripe(e:Ch.Eng):Prop where
 fair:Ch.Fair e.tx.length e
 wal:e.su.length+e.lo.length<=4000
 ix:e.ix.length<=240
 an:e.ac.length<=220
theorem Ch.Good.ripe(h:Ch.Good e):Ripe e:=by
 refine⟨h.fair,?_,?_,h.an⟩
 .rcases Cd 4000 (e.su.length+e.lo.length)with h1|h1
  .have:=h.wal;rw[sT h1]at this;cases this
  .exact h1
 .rcases Cd 240 e.ix.length with h1|h1
  .have:=h.ix;rw[bO8 h1]at this;cases this
  .exact h1
theorem aZ0{q:Int}(h:aF k p q v=0):(0<=p/\p<=99)/\(k=1\/k=2\/k=3\/k=4\/k=5\/k=6\/k=7\/k=8\/k=9\/k=10):=by
 unfold aF at h;split at h
 .cases hin:inB p 0 99
  .rw[if_pos hin]at h;cases h
  .exact⟨fT hin,by omega⟩
 .split at h
  .cases hin:inB p 0 99
   .rw[if_pos hin]at h;cases h
   .exact⟨fT hin,by omega⟩
  .split at h
   .cases hin:inB p 0 99
    .rw[if_pos hin]at h;cases h
    .exact⟨fT hin,by omega⟩
   .split at h
    .split at h
     .cases h
     .split at h
      .exact⟨by omega,by omega⟩
      .cases h
    .split at h
     .split at h
      .exact⟨by omega,by omega⟩
      .cases h
     .cases h
theorem bQ7(hp:0<=p/\p<=99):∀j,j<(eQ k p).length->inB ((eQ k p).getD j Hold.zero).t 0 100=A'/\inB ((eQ k p).getD j Hold.zero).m 1 5=A':=by
 have hz:inB 0 0 100=A':=by decide
 have hp1:inB (p+1) 0 100=A':=by unfold inB;simp;omega
 have H:∀h∈eQ k p,inB h.t 0 100=A'/\inB h.m 1 5=A':=by
  intro h hm;unfold eQ at hm;split at hm
  .simp only[Am,Cu,Eh]at hm;rcases hm with rfl|rfl
   .exact⟨hz,by decide⟩
   .exact⟨hp1,rfl⟩
  .split at hm
   .simp only[Am,Cu,Eh]at hm;rcases hm with rfl|rfl
    .exact⟨hz,by decide⟩
    .exact⟨hp1,rfl⟩
   .split at hm
    .rw[Cp.1 hm];exact⟨hz,by decide⟩
    .split at hm
     .rw[Cp.1 hm];exact⟨hz,by decide⟩
     .cases hm
 intro j hj;have hg:(eQ k p).getD j Hold.zero=(eQ k p)[j]:=by simp[List.getD,hj]
 rw[hg];exact H _ (Ce hj)
def lenOf(v:Option Value):Nat:=match v with|Y (Z _ n _)=>n|_=>0
theorem cS3{W':World}{B:Nat}(h:∀x,B<=x->x<W.heap.size->W'.heap[x]? =W.heap[x]? /\T x=0):cT0 (gU (fun x=>decide (B<=x)) W) (gU (Ice T) W'):=by intro b o v hc;obtain⟨h1,h2⟩:=gS hc;have h3:=h b (by simpa using h2) (aD h1);refine kZ ?_ (by simp[Ice,h3.2]);rw[Eu (w:=W) (w':=W') h3.1];exact h1
theorem cX3(a:Option Addr)(n cap:Nat)(N:Nat)(zs:List Int)(w:World)(h:CellsAt w a n (bts zs))(hb:IsB zs)(hn:n<=1048580)(h1:1<=N)(h2:N<=200):
  Calls prog 20 #[Z a n cap,I J 2,I J (N:Int)] w fun e w'=>∃c:Nat,c<N/\e=R' (I J (c:Int))/\V' w w':=by
 by_cases hN:N<=1
 .go_enter func20,ntmps20
  go_wp2;go_ret;exact⟨0,by omega,rfl,Aa _ _⟩
 have hN1:¬(N:Int)<=1:=by omega
 have hN2:(N:Int)≠0:=by omega
 by_cases h0:n=0
 .subst h0;obtain⟨c,hc,hcN⟩:∃c:Nat,(14:Int)%(N:Int)=(c:Int)/\c<N:=⟨14%N,by rw[Int.natCast_emod];rfl,Nat.mod_lt _ (by omega)⟩
  go_enter func20,ntmps20
  go_wp2;go_ret;exact⟨c,hcN,by first|exact cH hc|rfl,Aa _ _⟩
 .obtain⟨j,hj,hjn⟩:∃j:Nat,(2:Int)%(n:Int)=j/\j<n:=⟨2%n,by rw[Int.natCast_emod];rfl,Nat.mod_lt _ (by omega)⟩
  obtain⟨p,hp,hpk⟩:∃p:Nat,(2:Int) / (n:Int)=p/\p<=2:=⟨2 / n,by rw[Int.natCast_ediv];rfl,Nat.div_le_self _ _⟩
  obtain⟨b,off,rfl,hc⟩:=h.at hjn;obtain⟨x0,x1⟩:=hb j;generalize zs.getD j 0=x at*;have hn0:((n:Int)==0)=F':=by simpa using h0
  have hn1:(n:Int)≠0:=by omega
  have hg:¬(200:Int)<(N:Int):=by omega
  obtain⟨c,hcc,hcN⟩:∃c:Nat,(x+(p:Int)*3)%(N:Int)=(c:Int)/\c<N:=by have m0:0<=(x+(p:Int)*3)%(N:Int):=Int.emod_nonneg _ (by omega);have m1:(x+(p:Int)*3)%(N:Int)<N:=Fy _ (by omega);exact⟨((x+(p:Int)*3)%(N:Int)).toNat,by omega,by omega⟩
  go_enter func20,ntmps20
  go_wp2;go_quiet (fail)
  go_wp2;go_ret;exact⟨c,hcN,by first|exact cH hcc|rfl,Cj (Aa _ _) _⟩
def adr(a:Option Addr)(c m:Nat):Option Addr:=if c=m then a else a.map (·.add (m*1))
theorem dJ7{c m:Nat}(h:CellsAt w a (n*1) (icells zs))(hm:m<=n)(hc:n<=c):CellsAt w (adr a c m) ((n-m)*1) (icells (zs.drop m)):=by
 have hd:icells (zs.drop m)=(icells zs).drop m:=by simp[icells,List.map_drop]
 have hl:=h.1;refine⟨by rw[hd,Ej,hl];omega,fun hp=>?_⟩;obtain⟨b,off,rfl,hi⟩:=h.2 (by omega);unfold adr;rw[if_neg (by omega)];by_cases h0:m=0
 .subst h0;refine⟨b,off,by simp[Addr.add],fun j hj=>?_⟩;rw[hd,Gf];exact hi j (by omega)
 .refine⟨b,off+m,by simp[Addr.add,h0],fun j hj=>?_⟩;rw[hd,Df,Dm];exact hi (m+j) (by omega)
theorem dH0(a:Option Addr)(n c m:Nat)(hm:m<=n)(W:World):(Instr.slice 27 (Z a n c) (Y (I J (m:Int))) O O).run prog W= .ok (Z (adr a c m) (n-m) (c-m)) W:=by
 have hq:(0:Int)<=(m:Int)/\(m:Int)<=(n:Int):=by omega
 unfold adr;go_simp
theorem dH1(a:Option Addr)(n c m:Nat)(hm:m<=c)(W:World):(Instr.slice 27 (Z a n c) O (Y (I J (m:Int))) O).run prog W= .ok (Z a m c) W:=by
 have hq:m<=c:=hm;cases a with
 |none=>go_simp
 |some x=>go_simp
theorem bT4{cs:List Int}(h:(eS base ts cs).1=0):cQ ts=0/\cs.length<=40:=by
 have hF:fJ base ts cs=0:=by
  by_cases h0:fJ base ts cs=0
  .exact h0
  .rw[rM rfl (by simpa using h0)]at h;exact absurd h h0
 exact⟨(lI hF).1,(lI hF).2.2⟩
theorem aG2(h:cQ ts=0):wrR ts 1=(0,wrL ts 1):=by unfold wrR;rw[h];rfl
theorem dA0(ts:List Ac)(txn:Int):(wrL ts txn).length<=100:=by unfold wrL jW;exact Ak (Dt _ _) (by simp)
theorem bH3(l:List Row):pH l l=A':=by
 induction l with
 |nil=>rfl
 |cons a l ih=>simp[pH,ih,Row.same]
theorem dD1(c:Int)(a:Option Addr)(m k:Nat)(W:World):(Instr.field 36 (U #[I J c,Z a m k]) 1).run prog W= .ok (Z a m k) W:=by kernel_rfl
end Go.Proofs.YtpbbokalojdooaaGreat
