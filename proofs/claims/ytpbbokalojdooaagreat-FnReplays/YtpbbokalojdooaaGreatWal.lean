import Derived.Test.YtpbbokalojdooaaGreatWaj
namespace Go.Proofs.YtpbbokalojdooaaGreat
open Go.RowKit Ch Go.Proofs.Tryz
set_option linter.unusedSimpArgs false
set_option linter.unusedVariables false
set_option maxRecDepth 20000
set_option maxHeartbeats 8000000
open Value renaming int->I,slice->Z,bool->X,agg->U
open IntKind renaming i64->J
open Option renaming none->O,some->Y
open Obj renaming cells->M
open Ending renaming returned->R'
open Bool renaming true->A',false->F'
variable {key:Int} {vs:List (Value×Value)} {ls:List Lock} {l rs:List Row} {xs:List Value} {B H k m n:Nat} {a a':Option Addr} {row:Option Nat} {T t:TypeId} {v v' x y z:Value} {p:Value×Value} {w w':World}
theorem mI(h:V' w w')(row:Option Nat):w.grownBy w' row:=⟨h.os,h.tape,h.output,h.size,fun k hk _=>h.block k hk⟩
theorem cP0(h:(v.ownBlock.toList++vs.flatMap blks).Nodup)(hat:∀g,v'.ownBlock=Y g->v.ownBlock=Y g\/H<=g)(ho:∀(i:Nat) (q:Value×Value),vs[i]? =Y q->∀g∈blks q,g<H):(v'.ownBlock.toList++vs.flatMap blks).Nodup:=by
 rw[Cx]at h⊢;refine⟨?_,h.2.1,fun a ha b hb e=>?_⟩
 .cases v'.ownBlock<;>simp
 .subst e;rcases hat a (by simpa using ha)with h1|h1
  .exact h.2.2 a (by simp[h1]) a hb rfl
  .obtain⟨i,q,hq,hg⟩:=qC hb;have:=ho i q hq a hg;omega
theorem xV(h:(v.ownBlock.toList++vs.flatMap blks).Nodup)(hv:∀g,v.ownBlock=Y g->g<H)(ho:∀(i:Nat) (q:Value×Value),vs[i]? =Y q->∀g∈blks q,g<H)
  (hxy:∀g,x.ownBlock=Y g->y.ownBlock≠Y g) (hx:∀g,x.ownBlock=Y g->H<=g) (hy:∀g,y.ownBlock=Y g->H<=g):(v.ownBlock.toList++(vs++[(x,y)]).flatMap blks).Nodup:=by
 rw[Dc,<-Bw];rw[Cx];refine⟨h,?_,fun a ha b hb e=>?_⟩
 .simp only[Cc,List.flatMap_nil,Dz,blks];rw[Cx];refine⟨?_,?_,?_⟩
  .cases x.ownBlock<;>simp
  .cases y.ownBlock<;>simp
  .intro a ha b hb e;subst e;exact hxy a (by simpa using ha) (by simpa using hb)
 .subst e;have hH:H<=a:=by
   simp only[Cc,List.flatMap_nil,Dz,blks,Aj,Ee]at hb;rcases hb with hb|hb
   .exact hx a hb
   .exact hy a hb
  rw[Aj]at ha;rcases ha with ha|ha
  .have:=hv a (by simpa using ha);omega
  .obtain⟨i,q,hq,hg⟩:=qC ha;have:=ho i q hq a hg;omega
theorem OwnK.snoc(h:OwnK T w B v n ls vs){l:Lock}{c':Nat}
  (own:w'.ownsRow B T 3 (Z a' (n+1) c') (n+1) (lcells ls vs++[I J l.r,x,y])) (gr:w.grownBy w' v.ownBlock) (hat:∀g,(Z a' (n+1) c').ownBlock=Y g->v.ownBlock=Y g\/w.heap.size<=g)
  (hx:w.ownsRow B 232 2 x l.hs.length (hcells l.hs)) (hy:w.ownsRow B 232 2 y l.qs.length (hcells l.qs)) (hn:(v.ownBlock.toList++(vs++[(x,y)]).flatMap blks).Nodup):OwnK T w' B (Z a' (n+1) c') (n+1) (ls++[l]) (vs++[(x,y)]):=by
 have hl:ls.length=vs.length:=by rw[h.len,h.vlen]
 have hget:∀(i:Nat) (q:Value×Value),(vs++[(x,y)])[i]? =Y q->(i=n/\q=(x,y))\/(i<n/\vs[i]? =Y q):=by
  intro i q hq;rcases En i n with hi|hi|hi
  .rw[Av (by rw[h.vlen];exact hi)]at hq;exact .inr ⟨hi,hq⟩
  .subst hi;rw[Ay (by rw[h.vlen];omega)]at hq;simp[h.vlen]at hq;exact .inl ⟨rfl,hq.symm⟩
  .rw[Bk (by simp[h.vlen];omega)]at hq;cases hq
 have hlk:∀i,i<n->aI (ls++[l]) i=aI ls i:=by intro i hi;unfold aI;simp[List.getD,Av (show i<ls.length by rw[h.len];exact hi)]
 have hln:aI (ls++[l]) n=l:=by unfold aI;simp[List.getD,h.len]
 have hsub:∀(i:Nat) (q:Value×Value),(vs++[(x,y)])[i]? =Y q->∀g∈blks q,g<w.heap.size/\v.ownBlock≠Y g:=by
  intro i q hq g hg;refine⟨?_,fun e=>sG hn hq e hg⟩;rcases hget i q hq with⟨_,rfl⟩|⟨_,hq⟩
  .simp only[blks,Aj,Ee]at hg;rcases hg with hg|hg
   .exact(aH hx g hg).2
   .exact(aH hy g hg).2
  .exact(h.bd hq hg).2
 refine⟨by simp[h.len],by simp[h.vlen],?_,fun i q hq=>?_,fun i q hq=>?_,cP0 hn hat (fun i q hq g hg=>(hsub i q hq g hg).1)⟩
 .rw[lV hl];exact own
 .have hs:=hsub i q hq;rcases hget i q hq with⟨rfl,rfl⟩|⟨hi,hq'⟩
  .rw[hln];exact aN hx gr fun g hg e=>(hs g (by simp[blks,hg])).2 e
  .rw[hlk i hi];exact aN (h.hs i q hq') gr fun g hg e=>(hs g (by simp[blks,hg])).2 e
 .have hs:=hsub i q hq;rcases hget i q hq with⟨rfl,rfl⟩|⟨hi,hq'⟩
  .rw[hln];exact aN hy gr fun g hg e=>(hs g (by simp[blks,hg])).2 e
  .rw[hlk i hi];exact aN (h.qs i q hq') gr fun g hg e=>(hs g (by simp[blks,hg])).2 e
theorem OwnK.nil(T:TypeId)(w:World)(B:Nat):OwnK T w B (Z O 0 0) 0 [] []:=
 ⟨rfl,rfl,Aw _ _ _ _,fun i p hp=>by simp at hp,fun i p hp=>by simp at hp,by simp[Value.ownBlock]⟩
theorem bY3{p':Value×Value}(h:(v.ownBlock.toList++vs.flatMap blks).Nodup)(hp:vs[k]? =Y p)(hv:∀g,v.ownBlock=Y g->g<H)(ho:∀(i:Nat) (q:Value×Value),vs[i]? =Y q->∀g∈blks q,g<H)(hn:(blks p').Nodup)(hf:∀g∈blks p',g∈blks p\/H<=g):(v.ownBlock.toList++(vs.set k p').flatMap blks).Nodup:=by
 obtain⟨e1,e2⟩:=yC hp p';have h0:=h;rw[e1,<-Bw]at h;rw[e2,<-Bw];refine cI3 h hn fun g hg=>⟨fun hA=>?_,fun hC=>?_⟩
 .rcases hf g hg with hgp|hgH
  .simp only[Cx,Aj]at h;rw[Aj]at hA;exact h.2.2 g hA g (.inl hgp) rfl
  .rw[Aj]at hA;rcases hA with hA|hA
   .have:=hv g (by simpa using hA);omega
   .obtain⟨i,q,hq,hgq⟩:=qC hA;have hq':vs[i]? =Y q:=by
     rw[Ez]at hq;split at hq
     .exact hq
     .cases hq
    have:=ho i q hq' g hgq;omega
 .rcases hf g hg with hgp|hgH
  .simp only[Cx,Aj]at h;exact h.2.1.2.2 g hgp g hC rfl
  .obtain⟨i,q,hq,hgq⟩:=qC hC;rw[Df]at hq;have:=ho _ q hq g hgq;omega
theorem OwnK.swap{o cap:Nat}(h:OwnK T w B (Z (Y ⟨o,0,O⟩) n cap) n ls vs)(hp:vs[k]? =Y p)(gr:w.grownBy w' row)(hrow:∀g,row=Y g->g∈blks p){l:Lock}(hr:l.r=(aI ls k).r){j:Nat}
  (hx:w'.ownsRow B 232 2 x l.hs.length (hcells l.hs)) (hy:w'.ownsRow B 232 2 y l.qs.length (hcells l.qs)) (hxy:∀g,x.ownBlock=Y g->y.ownBlock≠Y g) (hf:∀g∈blks (x,y),g∈blks p\/w.heap.size<=g)
  (hj:(j=1/\z=x/\y=p.2)\/(j=2/\z=y/\x=p.1)):
  OwnK T (w'.setCell ⟨o,k*3+j,O⟩ z) B (Z (Y ⟨o,0,O⟩) n cap) n (ls.set k l) (vs.set k (x,y)):=by
 have hk:=h.in hp;have hkl:k<ls.length:=by rw[h.len];exact hk
 have hl:ls.length=vs.length:=by rw[h.len,h.vlen]
 have hob:=aH h.row o rfl;have hno:∀(i:Nat) (q:Value×Value),vs[i]? =Y q->o∉blks q:=fun i q hq=>sG h.apart hq rfl;have hrow':w'.ownsRow B T 3 (Z (Y ⟨o,0,O⟩) n cap) n (lcells ls vs):=aN h.row gr fun g hg e=>by have:=hrow g e;simp[Value.ownBlock]at hg;subst hg;exact hno k p hp this
 have hst:=hrow'.stored (k*3+j) z;have hat:=wB (ls:=ls) hl hp;have hcell:(lcells ls vs).set (k*3+j) z=lcells (ls.set k l) (vs.set k (x,y)):=by
  rw[<-cH4 k l x y hl hkl,hr,show(lcells ls vs).set (k*3) (I J (aI ls k).r)=lcells ls vs from aA4 hat.1];rcases hj with⟨rfl,rfl,rfl⟩|⟨rfl,rfl,rfl⟩
  .exact(aA4 (by rw[Ea (by omega)];exact hat.2.2)).symm
  .rw[show(lcells ls vs).set (k*3+1) p.1=lcells ls vs from aA4 hat.2.1]
 have hset:∀(i:Nat) (q:Value×Value),(vs.set k (x,y))[i]? =Y q->(k=i/\q=(x,y))\/(k≠i/\vs[i]? =Y q):=by
  intro i q hq;by_cases hik:k=i
  .subst hik;rw[Fk (by rw[h.vlen];exact hk)]at hq;cases hq;exact .inl ⟨rfl,rfl⟩
  .rw[Ea hik]at hq;exact .inr ⟨hik,hq⟩
 have hxo:∀g,x.ownBlock=Y g->Y o≠Y g:=fun g hg e=>by
  cases e;rcases hf o (by simp[blks,hg])with h1|h1
  .exact hno k p hp h1
  .omega
 have hyo:∀g,y.ownBlock=Y g->Y o≠Y g:=fun g hg e=>by
  cases e;rcases hf o (by simp[blks,hg])with h1|h1
  .exact hno k p hp h1
  .omega
 refine⟨by simpa using h.len,by simpa using h.vlen,by rw[<-hcell];exact hst.1,fun i q hq=>?_,fun i q hq=>?_,?_⟩
 .rw[yH ls k i l hkl];rcases hset i q hq with⟨hik,rfl⟩|⟨hik,hq⟩
  .rw[if_pos hik];exact aN hx hst.2 hxo
  .rw[if_neg hik];refine aN (aN (h.hs i q hq) gr fun g hg e=>?_) hst.2 fun g hg e=>?_
   .exact vY h.apart (fun e=>hik e.symm) hq hp (by simp[blks,hg]) (hrow g e)
   .cases e;exact hno i q hq (by simp[blks,hg])
 .rw[yH ls k i l hkl];rcases hset i q hq with⟨hik,rfl⟩|⟨hik,hq⟩
  .rw[if_pos hik];exact aN hy hst.2 hyo
  .rw[if_neg hik];refine aN (aN (h.qs i q hq) gr fun g hg e=>?_) hst.2 fun g hg e=>?_
   .exact vY h.apart (fun e=>hik e.symm) hq hp (by simp[blks,hg]) (hrow g e)
   .cases e;exact hno i q hq (by simp[blks,hg])
 .refine bY3 h.apart hp (fun g hg=>(aH h.row g hg).2) (fun i q hq g hg=>(h.bd hq hg).2) ?_ hf;unfold blks;rw[Cx];refine⟨?_,?_,?_⟩
  .cases x.ownBlock<;>simp
  .cases y.ownBlock<;>simp
  .intro a ha b hb' e;subst e;exact hxy a (by simpa using ha) (by simpa using hb')
def LkIn(lo hi:Nat)(w:World)(a:Option Addr)(n:Nat)(ls:List Lock):Prop:=
 ls.length=n/\(0<n->∃b off,a=Y ⟨b,off,O⟩/\lo<=b/\b<hi/\∀i,i<n->∃ah nh ch aq nq cq,LkOne w b (off+i*3) ah nh ch aq nq cq (aI ls i)/\
  (∀g o,0<nh->ah=Y ⟨g,o,O⟩->lo<=g/\g<hi)/\(∀g o,0<nq->aq=Y ⟨g,o,O⟩->lo<=g/\g<hi))
section
open Go.Maps
theorem OwnLv.snoc{w0 w1 w2:World}{vs:List Value}{ls:List (List Row)}{o:Obj}(h:OwnV w0 B v n vs ls)(hb:V' w0 w1)
  (hx:w1.ownsRow w0.heap.size 86 3 x l.length (rcells l)) (hB:B<=w0.heap.size) (hm:m=n+1)
  (h2:w2.ownsRow B 200 1 v' m (vs++[x])) (hg:(w1.alloc o).grownBy w2 v.ownBlock) (hat:∀g,v'.ownBlock=Y g->v.ownBlock=Y g\/(w1.alloc o).heap.size<=g):OwnLv w2 B v' m (ls++[l]):=by
 subst hm;have hlt:=h.lt;obtain⟨hl,ho,hi,hd,hd'⟩:=h;have hvl:vs.length=n:=by have:=ho.1;omega
 have ba:V' w1 (w1.alloc o):=(Aa _ _).alloc z' _;have hsz:=hb.size;have Lx:=aH hx;have Lv:=aH ho;have hin:∀(i:Nat) (y:Value),vs[i]? =Y y->i<n:=by
  intro i y hy;rcases Cd i n with h|h
  .exact h
  .rw[Bk (by omega)]at hy;cases hy
 have split:∀(i:Nat) (y:Value),(vs++[x])[i]? =Y y->(i<n/\vs[i]? =Y y)\/(i=n/\y=x):=by
  intro i y hy;rcases Cd i n with h|h
  .rw[Av (by omega)]at hy;exact .inl ⟨h,hy⟩
  .rw[Ay (by omega)]at hy;by_cases h0:i-vs.length=0
   .rw[h0]at hy;simp at hy;exact .inr ⟨by omega,hy.symm⟩
   .rw[Bk (by simp;omega)]at hy;cases hy
 refine⟨by simp[hl],vs++[x],h2,fun i hlt'=>?_,?_,?_⟩
 .by_cases hin':i=n
  .subst hin';refine⟨x,by rw[Ay (by omega)];simp[hvl],?_⟩;have e:(ls++[l]).getD i []=l:=by simp[List.getD,hl]
   rw[e];refine aQ (aN (aG hx ba) hg fun g hg' he=>?_) hB;have:=Lx g hg';have:=Lv g he;omega
  .obtain⟨y,h1,h3⟩:=hi i (by omega);refine⟨y,by rw[Av (by omega)];exact h1,?_⟩;have e:(ls++[l]).getD i []=ls.getD i []:=by simp[List.getD,Av (show i<ls.length by omega)]
   rw[e];refine aN (aG (aG h3 hb) ba) hg fun g hg' he=>?_;exact hd' i y g h1 he hg'
 .intro i j y z g hij hy hz hyg hzg;rcases split i y hy with⟨hi1,hy'⟩|⟨hi1,rfl⟩
  .rcases split j z hz with⟨hj1,hz'⟩|⟨hj1,rfl⟩
   .exact hd i j y z g hij hy' hz' hyg hzg
   .have:=hlt i y g hy' hyg;have:=Lx g hzg;omega
  .rcases split j z hz with⟨hj1,hz'⟩|⟨hj1,rfl⟩<;>omega
 .intro i y g hy hvg hyg;have hv':=hat g hvg;simp only[World.alloc,Array.size_push]at hv';rcases split i y hy with⟨hi1,hy'⟩|⟨hi1,rfl⟩
  .rcases hv' with h3|h3
   .exact hd' i y g hy' h3 hyg
   .have:=hlt i y g hy' hyg;omega
  .have:=Lx g hyg;rcases hv' with h3|h3
   .have:=Lv g h3;omega
   .omega
theorem vE(hH:H=w.heap.size):CellsAt (w.alloc (M #[x] t)) (Y ⟨H,0,O⟩) 1 [x]:=by subst hH;refine⟨rfl,fun _=>⟨_,_,rfl,fun i hi=>?_⟩⟩;rw[Al];have:=Ai (w.alloc (M #[x] t)) _ i _ _ _ (Ar w _);rw[this];simp
theorem aS4(h:k<l.length)(hin:¬(l.getD k Row.zero).k=key):(l.take (k+1)).filter (dX key)=(l.take k).filter (dX key)++[l.getD k Row.zero]:=by rw[bZ l Row.zero k h];generalize l.getD k Row.zero=r at*;rw[Bl];simp[dX,hin]
theorem bC3(h:k<l.length)(hin:(l.getD k Row.zero).k=key):(l.take (k+1)).filter (dX key)=(l.take k).filter (dX key):=by rw[bZ l Row.zero k h];generalize l.getD k Row.zero=r at*;rw[Bl];simp[dX,hin]
theorem bH6(a:Option Addr)(n cap:Nat)(key:Int)(ls:List (List Row))(w:World)(h:LvAt w a n ls)(hs:aW ls<=1048576):
  Calls prog 213 #[Z a n cap,I J key] w fun e w'=>∃a' m c',e=R' (Z a' m c')/\OwnLv w' w.heap.size (Z a' m c') m (fD ls key)/\V' w w':=by
 have HL:=h.len;have hn:n<=1048576:=by unfold aW at hs;have:=HL.out;omega
 have o0:=pI w w.heap.size z';have O0:OwnLv (w.alloc (M #[] 200)) w.heap.size (Z (Y ⟨w.heap.size,0,O⟩) 0 0) 0 []:=⟨rfl,[],o0,fun i hi=>absurd hi (by omega),fun i j x y g _ hx=>by simp at hx,fun i x g hx=>by simp at hx⟩
 clear o0;go_enter func213,ntmps213
 go_wp2;go_loopw [5,6] (fun q i wr=>∃(k m:Nat) (a':Option Addr) (c':Nat),k<=n/\m<=k/\i=I J k/\q=Z a' m c'/\OwnLv wr w.heap.size (Z a' m c') m (fD (ls.take k) key)/\V' w wr) (fun _ i _=>n-(intOf i).toNat)
 case atStart=>exact⟨0,0,_,_,Ad _,z',rfl,rfl,by simpa[fD]using O0,(Aa _ _).alloc z' _⟩
 case round=>
  clear O0;obtain⟨k,m,a',c',hk,hmk,rfl,rfl,own,hB⟩:=hrel;by_cases hlt:k<n
  .have hkl:k<ls.length:=by have:=HL.out;omega
   have HS:=hid (fI hs k);have HD:=hid (bW2 ls key k hkl);obtain⟨b,off,ai,ni,ci,rfl,hc,hr,hni⟩:=h.leaf hlt;have HRl:=hr.rlen;have hni':ni<=1048576:=by have:=HS.out;have:=HRl.out;omega
   generalize ls.getD k []=l at*;generalize fD (ls.take k) key=DL at*;obtain⟨wo,hwo⟩:∃x:World,x=wr:=⟨_,rfl⟩
   subst hwo;have hcr:=keep_cell hB hc;have e0:=kH wo wo.heap.size z';have bR:V' wo (wo.alloc (M #[] 86)):=(Aa _ _).alloc z' _;go_wp2;go_loopw [7,8] (fun q i wq=>∃(t p:Nat) (a2:Option Addr) (c2:Nat),t<=ni/\p<=t/\i=I J t/\q=Z a2 p c2/\wq.ownsRow wo.heap.size 86 3 (Z a2 p c2) p (rcells ((l.take t).filter (dX key)))/\V' wo wq) (fun _ i _=>ni-(intOf i).toNat)
   case atStart=>exact⟨0,0,_,_,Ad _,z',rfl,rfl,by simpa using e0,bR⟩
   case round=>
    clear e0 bR;obtain⟨t,p,a2,c2,ht,hpt,rfl,rfl,own2,hB2⟩:=hrel;have hcq:=keep_cell hB2 hcr;by_cases hlt2:t<ni
    .obtain⟨b1,o1,rfl,q0,q1,q2⟩:=(hr.below (hB.trans (hB2.mono hB.size))).row hlt2;have HY:=hid (fun hin=>aS4 (key:=key) (l:=l) (k:=t) (by have:=HRl.out;omega) hin);have HNo:=hid (fun hin=>bC3 (key:=key) (l:=l) (k:=t) (by have:=HRl.out;omega) hin);generalize l.getD t Row.zero=rr at*;obtain⟨rk,rv,rg⟩:=rr;simp only at q0 q1 q2 HY HNo;generalize(l.take t).filter (dX key)=S at*;have hsum:p+1<=2097152:=by omega
     have bA:∀o,V' wr (wr.alloc o):=fun o=>(Aa _ _).alloc z' _;by_cases hke:rk=key
     .have HNo':=hid (HNo.out hke);have hne:(rk !=key)=F':=by simpa using hke
      clear HY HNo hke;go_wp2;go_roundw;case rel=>exact⟨t+1,p,a2,c2,by omega,by omega,by go_num,rfl,by rw[HNo'.out];exact own2,hB2⟩
      case measure=>simp[intOf];omega
     .have HY':=hid (HY.out hke);have hne:(rk !=key)=A':=by simpa using hke
      clear HY HNo hke;go_wp2_with(at_builtin;go_must (refine fC (.tmp 38) (.tmp 47) wo.heap.size (Z a2 p c2) p S 1 [⟨rk,rv,rg⟩] hsum ?_ ?_ ?_ ?_ ?_ ?_ ?_;exact rfl;exact rfl;exact rfl;exact⟨_,_,rfl,lG (r:=⟨rk,rv,rg⟩) rfl⟩;exact aG own2 (bA _);(focus(have:=hB2.size;simp;omega));intro a3 c3 w3 own3 b3))
      go_roundw;case rel=>exact⟨t+1,p+1,a3,c3,by omega,by omega,by go_num,rfl,by rw[HY'.out];exact own3,(hB2.alloc hB2.size _).trans b3⟩
      case measure=>simp[intOf];omega
    .obtain rfl:t=ni:=by omega
     have hbq:=hB.trans (hB2.mono hB.size);rw[Bb (by have:=HRl.out;omega)]at own2;have hpl:p=(l.filter (dX key)).length:=by have:=own2.1;rw[gG]at this;omega
     have HPL:=hid hpl;clear hpl;by_cases hp0:p=0
     .subst hp0;have HD':Hid (fD (ls.take (k+1)) key=DL):=by
       show _=_;rw[HD.out];have:aG8 (l.filter (dX key))=F':=by unfold aG8;rw[<-HPL.out];rfl
       rw[this];simp
      clear HD;go_wp2;go_roundw;case rel=>exact⟨k+1,m,a',c',by omega,by omega,by go_num,rfl,by rw[HD'.out];exact own.below hB2,hbq⟩
      case measure=>simp[intOf];omega
     .have HD':Hid (fD (ls.take (k+1)) key=DL++[l.filter (dX key)]):=by
       show _=_;rw[HD.out];have:aG8 (l.filter (dX key))=A':=by unfold aG8;rw[<-HPL.out];simp;omega
       rw[this];simp
      clear HD;have hp1:(0:Int)<(p:Int):=by omega
      obtain⟨vs,hV⟩:=own.told;have hoV:=hV.2.1;have hsum:m+1<=2097152:=by omega
      have bA:∀o,V' wr (wr.alloc o):=fun o=>(Aa _ _).alloc z' _;go_wp2_with(at_builtin;go_must (refine nL (.tmp 52) (.tmp 55) w.heap.size (Z a' m c') m vs 1 [Z a2 p c2] hsum (by simp[Value.oneCell']) ?_ ?_ ?_ ?_ ?_ ?_ ?_ (by omega);exact rfl;exact rfl;exact rfl;exact⟨_,_,rfl,vE rfl⟩;exact aG (aG hoV hB2) (bA _);(focus(have:=hbq.size;simp;omega));intro a3 c3 w3 own3 gr3 at3))
      go_roundw;case rel=>
       refine⟨k+1,m+1,a3,c3,by omega,by omega,by go_num,rfl,?_,?_⟩
       .rw[HD'.out];refine OwnLv.snoc hV hB2 ?_ hB.size rfl own3 gr3 at3;have:=HPL.out;rw[<-this];exact own2
       .refine(hbq.alloc hbq.size _).grown gr3 (by have:=hbq.size;simp;omega) ?_;intro j hj;exact(aH hoV j hj).1
      case measure=>simp[intOf];omega
  .obtain rfl:k=n:=by omega
   go_wp2;go_ret;have e1:=HL.out;rw[Bb (by omega)]at own;exact⟨a',m,c',rfl,own,hB⟩
end
theorem aA5(a:Option Addr)(n cap:Nat)(l:List Row)(rk rv:Int)(rg:Bool)(w:World)(h:CellsAt w a (n*3) (rcells l))(hn:n<=1048576):
  Calls prog 128 #[Z a n cap,U #[I J rk,I J rv,X rg]] w fun e w'=>∃a' m c',e=R' (Z a' m c')/\w'.ownsRow w.heap.size 86 3 (Z a' m c') m (rcells (eO ⟨rk,rv,rg⟩ l))/\V' w w':=by
 have HL:=h.rlen;have bA:∀(W:World) o,V' W (W.alloc o):=fun W o=>(Aa _ _).alloc z' _;go_enter func128,ntmps128
 go_wp2;obtain⟨B,HBe⟩:∃B,Hid (B=w.heap.size+1):=⟨_,rfl⟩
 go_loopw [5,6,7] (fun q dv i wr=>∃(t p:Nat) (a2:Option Addr) (c2:Nat) (d:Bool) (S:List Row),t<=n/\p<=t+d.toNat/\i=I J t/\dv=X d/\q=Z a2 p c2/\Hid (Ch.InSt ⟨rk,rv,rg⟩ l t d S)/\wr.ownsRow B 86 3 (Z a2 p c2) p (rcells S)/\Below B (w.alloc (M #[I J rk,I J rv,X rg] 86)) wr) (fun _ _ i _=>n-(intOf i).toNat)
 case atStart=>
  have e:=HBe.out;subst e;refine⟨0,0,_,_,F',[],Ad _,by simp,rfl,rfl,rfl,Ch.InSt.start _ _,?_,?_⟩
  .have:=kH (w.alloc (M #[I J rk,I J rv,X rg] 86)) (w.heap.size+1) (by simp);simpa using this
  .exact(Aa _ _).alloc (by simp) _
 case round=>
  obtain⟨t,p,a2,c2,d,S,ht,hp,rfl,rfl,rfl,st,own,hB⟩:=hrel;have hBs:B<=wr.heap.size:=by have:=hB.size;have:=HBe.out;simp at*;omega
  have hBo:Below (w.alloc (M #[I J rk,I J rv,X rg] 86)).heap.size (w.alloc (M #[I J rk,I J rv,X rg] 86)) wr:=by have:=HBe.out;subst this;simpa using hB
  have r0:=aU hBo 0;have r1:=aU hBo 1;have r2:=aU hBo 2;simp at r0 r1 r2;have hbw:=aZ hBo;clear hBo;by_cases hlt:t<n
  .have htl:t<l.length:=by have:=HL.out;omega
   obtain⟨b1,o1,rfl,y0,y1,y2⟩:=h.row hlt;have HLo:=hid (fun(e:d=F')=>Ch.InSt.low (e▸st.out) htl);have HSa:=hid (fun(e:d=F')=>Ch.InSt.same (e▸st.out) htl);have HHi:=hid (fun(e:d=F')=>Ch.InSt.high (e▸st.out) htl);have HOn:=hid (fun(e:d=A')=>Ch.InSt.on (e▸st.out) htl);have HOv:=hid (fun(e:d=A')=>Ch.InSt.over (e▸st.out) htl);generalize l.getD t Row.zero=rr at*;obtain⟨xk,xv,xg⟩:=rr;simp only at y0 y1 y2 HLo HSa HHi HOn HOv;have q0:=keep_cell hbw y0;have q1:=keep_cell hbw y1;have q2:=keep_cell hbw y2;have hit:((t:Int)<(n:Int)):=by omega
   cases d with
   |false=>
    simp only[Bool.toNat_false,Nat.add_zero]at hp;have hsum1:p+1<=2097152:=by omega
    have hsum2:p+1+1<=2097152:=by omega
    have HLo':=hid (HLo.out rfl);have HSa':=hid (HSa.out rfl);have HHi':=hid (HHi.out rfl);clear HLo HSa HHi HOn HOv st;rcases Int.lt_trichotomy xk rk with hx|hx|hx
    .have hd:decide (xk≥rk)=F':=by simp;omega
     have hne:(xk !=rk)=A':=by simp;omega
     have HS:=hid (HLo'.out hx);clear HLo' HSa' HHi' hx;go_wp2;go_quiet (fail)
     go_wp2;go_quiet (fail)
     go_wp2_with(at_builtin;go_must (refine fC (.tmp 39) (.tmp 44) B (Z a2 p c2) p S 1 [⟨xk,xv,xg⟩] hsum1 ?_ ?_ ?_ ?_ ?_ ?_ ?_;exact rfl;exact rfl;exact rfl;exact⟨_,_,rfl,lG (r:=⟨xk,xv,xg⟩) rfl⟩;exact aG own (Cj (Aa _ _) _|>.alloc (by simp) _);(focus(simp;omega));intro a3 c3 w3 own3 b3))
     go_roundw;case rel=>exact⟨t+1,p+1,a3,c3,F',_,by omega,by simp;omega,by go_num,rfl,rfl,HS.out,own3,((Cj hB _).alloc (by simpa using hBs) _).trans b3⟩
     case measure=>simp[intOf];omega
    .have hd:decide (xk≥rk)=A':=by simp;omega
     have hne:(xk !=rk)=F':=by simp;omega
     have HS:=hid (HSa'.out hx);clear HLo' HSa' HHi' hx;go_wp2;go_quiet (fail)
     go_wp2_with(at_builtin;go_must (refine fC (.tmp 27) (.tmp 29) B (Z a2 p c2) (p) (S) 1 [⟨rk,rv,rg⟩] hsum1 ?_ ?_ ?_ ?_ ?_ ?_ ?_;exact rfl;exact rfl;exact rfl;exact⟨_,_,rfl,lG (r:=⟨rk,rv,rg⟩) rfl⟩;exact aG own (Cj (Aa _ _) _|>.alloc (by simp) _);(focus(simp;omega));intro a3 c3 w3 own3 b3))
     have hB3:=((Cj hB _).alloc (by simpa using hBs) _).trans b3;have hBs3:B<=w3.heap.size:=by have:=hB3.size;have:=HBe.out;simp at*;omega
     have hBo3:Below (w.alloc (M #[I J rk,I J rv,X rg] 86)).heap.size (w.alloc (M #[I J rk,I J rv,X rg] 86)) w3:=by have:=HBe.out;subst this;simpa using hB3
     have r0:=aU hBo3 0;have r1:=aU hBo3 1;have r2:=aU hBo3 2;simp at r0 r1 r2;have hbw3:=aZ hBo3;clear hBo3;have q0:=keep_cell hbw3 y0;have q1:=keep_cell hbw3 y1;have q2:=keep_cell hbw3 y2;go_quiet (fail)
     go_wp2;go_roundw;case rel=>exact⟨t+1,p+1,a3,c3,A',_,by omega,by simp;omega,by go_num,rfl,rfl,HS.out,own3,Cj hB3 _⟩
     case measure=>simp[intOf];omega
    .have hd:decide (xk≥rk)=A':=by simp;omega
     have hne:(xk !=rk)=A':=by simp;omega
     have HS:=hid (HHi'.out hx);clear HLo' HSa' HHi' hx;go_wp2;go_quiet (fail)
     go_wp2_with(at_builtin;go_must (refine fC (.tmp 27) (.tmp 29) B (Z a2 p c2) (p) (S) 1 [⟨rk,rv,rg⟩] hsum1 ?_ ?_ ?_ ?_ ?_ ?_ ?_;exact rfl;exact rfl;exact rfl;exact⟨_,_,rfl,lG (r:=⟨rk,rv,rg⟩) rfl⟩;exact aG own (Cj (Aa _ _) _|>.alloc (by simp) _);(focus(simp;omega));intro a3 c3 w3 own3 b3))
     have hB3:=((Cj hB _).alloc (by simpa using hBs) _).trans b3;have hBs3:B<=w3.heap.size:=by have:=hB3.size;have:=HBe.out;simp at*;omega
     have hBo3:Below (w.alloc (M #[I J rk,I J rv,X rg] 86)).heap.size (w.alloc (M #[I J rk,I J rv,X rg] 86)) w3:=by have:=HBe.out;subst this;simpa using hB3
     have r0:=aU hBo3 0;have r1:=aU hBo3 1;have r2:=aU hBo3 2;simp at r0 r1 r2;have hbw3:=aZ hBo3;clear hBo3;have q0:=keep_cell hbw3 y0;have q1:=keep_cell hbw3 y1;have q2:=keep_cell hbw3 y2;go_quiet (fail)
     go_wp2_with(at_builtin;go_must (refine fC (.tmp 39) (.tmp 44) B (Z a3 (p+1) c3) ((p+1)) (S++[⟨rk,rv,rg⟩]) 1 [⟨xk,xv,xg⟩] hsum2 ?_ ?_ ?_ ?_ ?_ ?_ ?_;exact rfl;exact rfl;exact rfl;exact⟨_,_,rfl,lG (r:=⟨xk,xv,xg⟩) rfl⟩;exact aG own3 (Cj (Aa _ _) _|>.alloc (by simp) _);(focus(simp;omega));intro a4 c4 w4 own4 b4))
     go_roundw;case rel=>exact⟨t+1,p+1+1,a4,c4,A',_,by omega,by simp;omega,by go_num,rfl,rfl,HS.out,own4,((Cj hB3 _).alloc (by simpa using hBs3) _).trans b4⟩
     case measure=>simp[intOf];omega
   |true=>
    simp only[Bool.toNat_true]at hp;have hsum1:p+1<=2097152:=by omega
    have HOn':=hid (HOn.out rfl);have HOv':=hid (HOv.out rfl);clear HLo HSa HHi HOn HOv st;by_cases hx:xk=rk
    .have hne:(xk !=rk)=F':=by simp;omega
     have HS:=hid (HOv'.out hx);clear HOn' HOv' hx;go_wp2;go_quiet (fail)
     go_wp2;go_quiet (fail)
     go_wp2;go_roundw;case rel=>exact⟨t+1,p,a2,c2,A',_,by omega,by simp;omega,by go_num,rfl,rfl,HS.out,own,Cj hB _⟩
     case measure=>simp[intOf];omega
    .have hne:(xk !=rk)=A':=by simpa using hx
     have HS:=hid (HOn'.out hx);clear HOn' HOv' hx;go_wp2;go_quiet (fail)
     go_wp2;go_quiet (fail)
     go_wp2_with(at_builtin;go_must (refine fC (.tmp 39) (.tmp 44) B (Z a2 p c2) (p) (S) 1 [⟨xk,xv,xg⟩] hsum1 ?_ ?_ ?_ ?_ ?_ ?_ ?_;exact rfl;exact rfl;exact rfl;exact⟨_,_,rfl,lG (r:=⟨xk,xv,xg⟩) rfl⟩;exact aG own (Cj (Aa _ _) _|>.alloc (by simp) _);(focus(simp;omega));intro a3 c3 w3 own3 b3))
     go_roundw;case rel=>exact⟨t+1,p+1,a3,c3,A',_,by omega,by simp;omega,by go_num,rfl,rfl,HS.out,own3,((Cj hB _).alloc (by simpa using hBs) _).trans b3⟩
     case measure=>simp[intOf];omega
  .obtain rfl:t=n:=by omega
   have hit:¬((t:Int)<(t:Int)):=by omega
   have HNo:=hid (fun(e:d=F')=>Ch.InSt.endNo (e▸st.out) (by have:=HL.out;omega));have HYe:=hid (fun(e:d=A')=>Ch.InSt.endYes (e▸st.out) (by have:=HL.out;omega));have hBw:w.heap.size<=B:=by have:=HBe.out;omega
   cases d with
   |false=>
    simp only[Bool.toNat_false,Nat.add_zero]at hp;have hsum1:p+1<=2097152:=by omega
    have HN:=hid (HNo.out rfl);clear HNo HYe st;go_wp2_with(at_builtin;go_must (refine fC (.tmp 48) (.tmp 50) B (Z a2 p c2) (p) (S) 1 [⟨rk,rv,rg⟩] hsum1 ?_ ?_ ?_ ?_ ?_ ?_ ?_;exact rfl;exact rfl;exact rfl;exact⟨_,_,rfl,lG (r:=⟨rk,rv,rg⟩) rfl⟩;exact aG own ((Aa _ _).alloc z' _);(focus(simp;omega));intro a3 c3 w3 own3 b3))
    go_ret;have hBo3:V' w w3:=((hbw.alloc hbw.size _)).trans (b3.mono hBw);exact⟨a3,p+1,c3,rfl,by rw[HN.out];exact aQ own3 hBw,hBo3⟩
   |true=>have HY:=hid (HYe.out rfl);clear HNo HYe st;go_wp2;go_ret;exact⟨a2,p,c2,rfl,by rw[HY.out];exact aQ own hBw,hbw⟩
theorem aC0{cp:Nat}(h:w.ownsRow B 86 3 (Z a (m+1) cp) (m+1) xs):∃g,a=Y ⟨g,0,O⟩:=by
 rcases h.2 with⟨_,h0⟩|⟨g',cp',cur,hv,_⟩
 .omega
 .simp only[Bg]at hv;exact⟨g',hv.1⟩
theorem aA0(m:Nat)(s:Nat)(a:Option Addr)(n cap k:Nat)(zs:List Int)(w:World)(h:Src w s a n cap k zs)(hb:IsB zs)(hn:n<=1048580)(hk:k<=500)(hm:m<=5):
  Calls prog 67 #[.pointer (Y ⟨s,0,O⟩),I J m] w fun e w'=>(∃g cp,e=R' (Z (Y ⟨g,0,O⟩) m cp)/\∃rs,w'.ownsRow w.heap.size 86 3 (Z (Y ⟨g,0,O⟩) m cp) m (rcells rs))/\(∃k',k'<=k+21/\Src w' s a n cap k' zs)/\w.grownBy w' (Y s):=by
 have hlt:=h.lt;go_enter func67,ntmps67
 go_wp2_with fail
 refine(eD 5 s a n cap k zs _ h.new hb hn (by omega) (by omega) (by omega)).mono ?_;rintro e w1⟨⟨x,x0,x1,rfl⟩,s1,g1⟩;have own0:(w.alloc (M #[] 86)).ownsRow w.heap.size 86 3 (Z (Y ⟨w.heap.size,0,O⟩) 0 0) 0 (rcells []):=Cr w #[] 0 z' (by unfold maxLen;omega) rfl;have own1:=aN own0 g1 (fun g hg=>by simp[Value.ownBlock]at hg;simp;omega);have g1':=kJ g1;clear g1 own0;go_wp2_with fail
 go_loopw [1,5,6] (fun mv v t wr=>∃(j r g cp:Nat) (x:Int) (rs:List Row),j+r=m/\mv=I J r/\v=Z (Y ⟨g,0,O⟩) j cp/\t=I J x/\0<=x/\x<=4+5*j/\
  wr.ownsRow w.heap.size 86 3 (Z (Y ⟨g,0,O⟩) j cp) j (rcells rs)/\Src wr s a n cap (k+1+4*j) zs/\w.grownBy wr (Y s)) (fun mv _ _ _=>(intOf mv).toNat)
 case atStart=>exact⟨0,m,_,_,x,[],by omega,rfl,rfl,rfl,x0,by omega,own1,s1,g1'⟩
 case round=>
  obtain⟨j,r,g,cp,x,rs,hjr,rfl,rfl,rfl,x0,x1,own,sr,gr⟩:=hrel;by_cases hr:0<r
  .have gB:=iY own;have hi:(0:Int)<(r:Int):=by omega
   go_wp2_with fail
   refine(cW4 s a n cap _ zs _ sr hb hn (by omega)).mono ?_;rintro e w2⟨⟨rk,rv,rg⟩,k2,_,_,_,rfl,rfl,s2,g2⟩;have own2:=aN own g2 (fun g' hg=>by simp[Value.ownBlock]at hg;simp;omega);have gr2:=cC gr g2;have z2:=g2.size;have z0:=gr.size;simp only;go_wp2_with fail
   refine(eD 5 s a n cap _ zs _ s2.new hb hn (by omega) (by omega) (by omega)).mono ?_;rintro e w3⟨⟨y,y0,y1,rfl⟩,s3,g3⟩;have own3:=aN (own2.alloc _) g3 (fun g' hg=>by simp[Value.ownBlock]at hg;simp;omega);have p:=bS g3 (Ar w2 _) (by simp;omega);have gr3:=cC gr2 (kJ g3);have z3:=g3.size;simp at z3;have p0:w3.cell? ⟨w2.heap.size,0,O⟩=_:=C' p;have p1:w3.cell? ⟨w2.heap.size,1,O⟩=_:=C' p;have p2:w3.cell? ⟨w2.heap.size,2,O⟩=_:=C' p;simp at p0 p1 p2;clear p g3 g2 own own2 sr gr;simp only;obtain⟨g0,hg0⟩:∃g0,g0=w3.heap.size:=⟨_,rfl⟩
   clear hg0;go_wp2_with(at_builtin;go_must (refine fC (.tmp 24) (.tmp 26) w.heap.size (Z (Y ⟨g,0,O⟩) j cp) j rs 1 [⟨x,rv,rg⟩] (by omega) ?_ ?_ ?_ ?_ ?_ ?_ ?_;exact rfl;exact rfl;exact rfl;exact⟨_,_,rfl,lG (r:=⟨x,rv,rg⟩) rfl⟩;exact own3.alloc _;(focus(simp;omega));intro a4 c4 w4 own4 b4))
   go_roundw;case rel=>
    obtain⟨g4,rfl⟩:=aC0 own4;refine⟨j+1,r-1,g4,c4,x+1+y,rs++[⟨x,rv,rg⟩],by omega,by go_num,rfl,by go_num,by omega,by omega,own4,?_,?_⟩
    .have:=s3.new.below b4 (by omega);rw[show k+1+4*(j+1)=k+1+4*j+3+1 by omega];exact this
    .exact dD5 (bC8 gr3) b4
   case measure=>simp[intOf];omega
  .have hi:¬(0:Int)<(r:Int):=by omega
   obtain rfl:j=m:=by omega
   go_wp2;go_ret;exact⟨⟨g,cp,rfl,rs,own⟩,⟨_,by omega,sr⟩,gr⟩
theorem wG{g cp:Nat}(h:w.ownsRow B 86 3 (Z (Y ⟨g,0,O⟩) m cp) m (rcells rs))(hm:0<m):
  (∀x:Int,∃rs',(w.setCell ⟨g,0,O⟩ (I J x)).ownsRow B 86 3 (Z (Y ⟨g,0,O⟩) m cp) m (rcells rs'))/\
  (∀x:Int,∃rs',(w.setCell ⟨g,1,O⟩ (I J x)).ownsRow B 86 3 (Z (Y ⟨g,0,O⟩) m cp) m (rcells rs'))/\
  (∃rs',(w.setCell ⟨g,2,O⟩ (X A')).ownsRow B 86 3 (Z (Y ⟨g,0,O⟩) m cp) m (rcells rs'))/\
  ∃r,rs.head? =Y r/\w.cell? ⟨g,0,O⟩=Y (I J r.k)/\w.cell? ⟨g,1,O⟩=Y (I J r.v)/\w.cell? ⟨g,2,O⟩=Y (X r.g):=by
 have hl:=(aO h).rlen.out;cases rs with
 |nil=>simp at hl;omega
 |cons r rs=>
  have e:∀r':Row,rcells (r'::rs)=[I J r'.k,I J r'.v,X r'.g]++rcells rs:=fun r'=>by simp[rcells]
  refine⟨fun x=>⟨⟨x,r.v,r.g⟩::rs,?_⟩,fun x=>⟨⟨r.k,x,r.g⟩::rs,?_⟩,⟨⟨r.k,r.v,A'⟩::rs,?_⟩,r,rfl,?_⟩
  .have:=(h.stored 0 (I J x)).1;rw[e]at this⊢;exact this
  .have:=(h.stored 1 (I J x)).1;rw[e]at this⊢;exact this
  .have:=(h.stored 2 (X A')).1;rw[e]at this⊢;exact this
  .obtain⟨b,off,hb,c0,c1,c2⟩:=(aO h).row (k:=0) hm;simp only[Af,Ap,Cn]at hb;obtain⟨rfl,rfl⟩:=hb;exact⟨c0,c1,c2⟩
theorem dG1(s:Nat)(a:Option Addr)(n cap k:Nat)(zs:List Int)(w:World)(h:Src w s a n cap k zs)(hb:IsB zs)(hn:n<=1048580)(hk:k<=400):
  Calls prog 45 #[.pointer (Y ⟨s,0,O⟩)] w fun e w'=>(∃g m cp,e=R' (Z (Y ⟨g,0,O⟩) m cp)/\m<=5/\∃rs,w'.ownsRow w.heap.size 86 3 (Z (Y ⟨g,0,O⟩) m cp) m (rcells rs))/\(∃k',k'<=k+60/\Src w' s a n cap k' zs)/\w.grownBy w' (Y s):=by
 have hlt:=h.lt;go_enter func45,ntmps45
 go_wp2_with fail
 refine(eD 5 s a n cap k zs _ h hb hn (by omega) (by omega) (by omega)).mono ?_;rintro e w1⟨⟨x,x0,x1,rfl⟩,s1,g1⟩;obtain⟨m,rfl⟩:=Int.eq_ofNat_of_zero_le x0;have z1:=g1.size;go_wp2_with fail
 refine(aA0 m s a n cap _ zs _ s1 hb hn (by omega) (by omega)).mono ?_;rintro e w2⟨⟨g,cp,rfl,rs,own0⟩,⟨k2,hk2,s2⟩,g2'⟩;have own:=aQ own0 z1;have g2:=cC g1 g2';have z2:=g2.size;have hgb:=iY own;clear own0 g2' g1 s1;by_cases hm:0<m
 .have hi:(0:Int)<(m:Int):=by omega
  go_wp2_with fail
  refine(eD 14 s a n cap _ zs _ s2 hb hn (by omega) (by omega) (by omega)).mono ?_;rintro e w3⟨⟨v,v0,v1,rfl⟩,s3,g3'⟩;have own:=aN own g3' (fun g' hg=>by simp[Value.ownBlock]at hg;simp;omega);have g3:=cC g2 g3';have z3:=g3.size;clear g3' g2 s2;have hv:v=0\/v=1\/v=2\/v=3\/3<v:=by omega
  rcases hv with rfl|rfl|rfl|rfl|hv;focus
   go_wp2_with fail
   refine(qL w3.heap.size 3 [-1,99,100] s a n cap _ zs _ s3.new hb hn (by omega) (Ar w3 _) (by have:=s3.lt;omega) rfl (by omega) (by omega)).mono ?_;rintro e w4⟨⟨y,_,rfl⟩,s4,g4⟩;have own:=aN (own.alloc _) g4 (fun g' hg=>by simp[Value.ownBlock]at hg;simp;omega);have gr4:=cC g3 (kJ g4);obtain⟨t0,t1,t2,r,hr,c0,c1,c2⟩:=wG own hm;have f0:=own.frozenAt 0;obtain⟨rs9,own9⟩:=t0 y;have s9:=s4.set (b:=g) (o:=0) (v:=I J y) (by omega);have gr9:=rB (o:=0) (v:=I J y) gr4 hgb.1;have hm9:m<=5:=by omega
   clear t0 t1 t2 g4 gr4 g3 own s3 s4;go_wp2_with fail
  rotate_left;focus
   go_wp2_with fail
   refine(qL w3.heap.size 3 [-1,9999,10000] s a n cap _ zs _ s3.new hb hn (by omega) (Ar w3 _) (by have:=s3.lt;omega) rfl (by omega) (by omega)).mono ?_;rintro e w4⟨⟨y,_,rfl⟩,s4,g4⟩;have own:=aN (own.alloc _) g4 (fun g' hg=>by simp[Value.ownBlock]at hg;simp;omega);have gr4:=cC g3 (kJ g4);obtain⟨t0,t1,t2,r,hr,c0,c1,c2⟩:=wG own hm;have f0:=own.frozenAt 1;obtain⟨rs9,own9⟩:=t1 y;have s9:=s4.set (b:=g) (o:=1) (v:=I J y) (by omega);have gr9:=rB (o:=1) (v:=I J y) gr4 hgb.1;have hm9:m<=5:=by omega
   clear t0 t1 t2 g4 gr4 g3 own s3 s4;go_wp2_with fail
  rotate_left;focus
   obtain⟨t0,t1,t2,r,hr,c0,c1,c2⟩:=wG own hm;have f0:=own.frozenAt 2;obtain⟨rs9,own9⟩:=t2;have s9:=s3.set (b:=g) (o:=2) (v:=X A') (by omega);have gr9:=rB (o:=2) (v:=X A') g3 hgb.1;have hm9:m<=5:=by omega
   clear t0 t1 g3 own s3;go_wp2_with fail
  rotate_left;focus
   obtain⟨_,_,_,r,hr,c0,c1,c2⟩:=wG own hm;have hsum:m+1<=2097152:=by omega
   go_wp2_with(at_builtin;go_must (refine fC (.tmp 36) (.tmp 40) w.heap.size (Z (Y ⟨g,0,O⟩) m cp) m rs 1 [r] hsum ?_ ?_ ?_ ?_ ?_ ?_ ?_;exact rfl;exact rfl;exact rfl;exact⟨_,_,rfl,lG (r:=r) rfl⟩;exact own.alloc _;(focus(simp;omega));intro a4 c4 w4 own9 b4))
   obtain⟨g4,rfl⟩:=aC0 own9;have s9:=s3.new.below b4 (by omega);have gr9:=dD5 (bC8 g3) b4;have hm9:m+1<=5:=by omega
   clear own s3 g3 b4
  rotate_left;focus
   have u0:(v==0)=F':=by rw[Cq];omega
   have u1:(v==1)=F':=by rw[Cq];omega
   have u2:(v==2)=F':=by rw[Cq];omega
   have u3:(v==3)=F':=by rw[Cq];omega
   have own9:=own;have s9:=s3;have gr9:=g3;have hm9:m<=5:=by omega
   clear own s3 g3;go_wp2_with fail
  rotate_left;all_goals
   refine(mF 30 s a n cap _ zs _ s9 hb hn (by omega) (by omega) (by omega)).mono ?_;rintro e w8⟨⟨c,rfl⟩,s10,g10⟩;have own10:=aN own9 g10 (fun g' hg=>by have:=(aH own9 g' hg).1;simp;omega);have gr10:=cC gr9 g10;clear own9 gr9 g10 s9;cases c
   .go_wp2;go_ret;exact⟨⟨_,_,_,rfl,hm9,_,own10⟩,⟨_,by omega,s10⟩,gr10⟩
   .go_wp2_with fail
    refine(aA0 5 s a n cap _ zs _ s10 hb hn (by omega) (by omega)).mono ?_;rintro e w11⟨⟨g',cp',rfl,rs',own11⟩,⟨k11,hk11,s11⟩,g11⟩;go_wp2;go_ret;exact⟨⟨_,_,_,rfl,z',_,aQ own11 gr10.size⟩,⟨k11,by omega,s11⟩,cC gr10 g11⟩
 .have hi:¬(0:Int)<(m:Int):=by omega
  have own9:=own;have s9:=s2;have gr9:=g2;have hm9:m<=5:=by omega
  clear own s2 g2;go_wp2_with fail
  refine(mF 30 s a n cap _ zs _ s9 hb hn (by omega) (by omega) (by omega)).mono ?_;rintro e w8⟨⟨c,rfl⟩,s10,g10⟩;have own10:=aN own9 g10 (fun g' hg=>by have:=(aH own9 g' hg).1;simp;omega);have gr10:=cC gr9 g10;clear own9 gr9 g10 s9;cases c
  .go_wp2;go_ret;exact⟨⟨_,_,_,rfl,hm9,_,own10⟩,⟨_,by omega,s10⟩,gr10⟩
  .go_wp2_with fail
   refine(aA0 5 s a n cap _ zs _ s10 hb hn (by omega) (by omega)).mono ?_;rintro e w11⟨⟨g',cp',rfl,rs',own11⟩,⟨k11,hk11,s11⟩,g11⟩;go_wp2;go_ret;exact⟨⟨_,_,_,rfl,z',_,aQ own11 gr10.size⟩,⟨k11,by omega,s11⟩,cC gr10 g11⟩
end Go.Proofs.YtpbbokalojdooaaGreat
