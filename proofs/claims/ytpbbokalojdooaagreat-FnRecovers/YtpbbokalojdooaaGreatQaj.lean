import Derived.Test.YtpbbokalojdooaaGreatQah
namespace Go.Proofs.YtpbbokalojdooaaGreat
open Go.RowKit Ch Go.Proofs.Tryz
set_option linter.unusedSimpArgs false
set_option linter.unusedVariables false
set_option maxRecDepth 20000
set_option maxHeartbeats 8000000
open Value renaming int->I,slice->Z,bool->X,agg->U
open IntKind renaming i64->J
open Option renaming none->O,some->Y
open Obj renaming cells->M
open Ending renaming returned->R'
open Bool renaming true->A',false->F'
variable {K:Act->World->Prop} {ops:Array Oper} {cs:Array Value} {b:Bf} {Q:Exit->Act->World->Prop} {c tx:Int} {ls:List (List Row)} {vs vs':List (Value×Value)} {bs:List Bf} {hs:List Hold} {rest:List Oper} {rs:List Rec} {xs:List Value} {l:Lock} {B' cap g i j k n:Nat} {o:Oper} {a:Option Addr} {e t:TypeId} {x y:Value} {p q:Value×Value} {w w0 w1:World}
def fL(tx:Int)(st:Int×List (List Row)×List Rec)(b:Bf):Int×List (List Row)×List Rec:=
 if st.1 !=0 then st else
  if(iY st.2.1 tx b.k b.h b.v).1 !=0 then((iY st.2.1 tx b.k b.h b.v).1,[],[])else
   (0,(iY st.2.1 tx b.k b.h b.v).2.1,st.2.2++[nP 3 st.2.1 tx b.k b.h b.v])
def cX(tx:Int)(ls:List (List Row))(bs:List Bf):Int×List (List Row)×List Rec:=bs.foldr (fun b st=>fL tx st b) (0,ls,[])
theorem yE(h:(c !=0)=A'):fL tx (c,ls,rs) b=(c,ls,rs):=by unfold fL;rw[if_pos h]
theorem yG(hs:(iY ls tx b.k b.h b.v).1=c)(h:(c !=0)=A'):fL tx (0,ls,rs) b=(c,[],[]):=by unfold fL;simp only;rw[if_neg (by decide),hs,if_pos h]
theorem aH9(hs:(iY ls tx b.k b.h b.v).1=0):fL tx (0,ls,rs) b=(0,(iY ls tx b.k b.h b.v).2.1,rs++[nP 3 ls tx b.k b.h b.v]):=by unfold fL;simp only;rw[if_neg (by decide),hs,if_neg (by decide)]
theorem bH6(h:bs.length<=k):cX tx ls (bs.drop k)=(0,ls,[]):=by rw[List.drop_of_length_le h];rfl
theorem yH(h:k<bs.length):cX tx ls (bs.drop k)=fL tx (cX tx ls (bs.drop (k+1))) (bs.getD k Bf.zero):=by rw[uI h];rfl
theorem qX(hg:aL ls=0)(bs:List Bf):aW (cX tx ls bs).2.1<=1048576/\(cX tx ls bs).2.2.length<=bs.length/\((cX tx ls bs).1=0->aL (cX tx ls bs).2.1=0):=by
 induction bs with
 |nil=>exact⟨iV hg,by simp[cX],fun _=>hg⟩
 |cons b bs ih=>
  have e:cX tx ls (b::bs)=fL tx (cX tx ls bs) b:=rfl;rw[e];obtain⟨h1,h2,h3⟩:=ih;generalize cX tx ls bs=st at*;obtain⟨c,l,r⟩:=st;simp only at h1 h2 h3;by_cases hc:c=0
  .subst hc;by_cases hs:(iY l tx b.k b.h b.v).1=0
   .rw[aH9 hs];have hz:=aS2 (ls:=l) (tx:=tx) (key:=b.k) (v:=b.v) (has:=b.h);refine⟨hz.1,by simp;omega,fun _=>?_⟩;by_cases hf:jQ l tx [⟨b.k,b.h,b.v⟩]=0
    .by_cases hm:(dO l b.k b.h b.v).1=0
     .rw[xX hf hm];exact rH hf hm
     .rw[sZ hf rfl (by simpa using hm)]at hs;exact absurd hs hm
    .rw[zR rfl (by simpa using hf)]at hs;exact absurd hs hf
   .rw[yG rfl (by simpa using hs)];exact⟨by simp[aW],by simp,fun h=>absurd h hs⟩
  .rw[yE (by simpa using hc)];exact⟨h1,by simp;omega,h3⟩
section
def lcells(ls:List Lock)(vs:List (Value×Value)):List Value:=(ls.zip vs).flatMap fun p=>[I J p.1.r,p.2.1,p.2.2]
theorem bZ5{ls:List Lock}(h:ls.length=vs.length):(lcells ls vs).length=ls.length*3:=by
 induction ls generalizing vs with
 |nil=>simp[lcells]
 |cons l ls ih=>
  cases vs with
  |nil=>simp at h
  |cons v vs=>have:=ih (vs:=vs) (by simpa using h);simp only[lcells,List.zip_cons_cons,List.flatMap_cons,List.length_append,List.length_cons,List.length_nil]at*;omega
theorem pC{ls:List Lock}(h:ls.length=vs.length)(hp:vs[i]? =Y p):(lcells ls vs)[i*3]? =Y (I J (aH ls i).r)/\(lcells ls vs)[i*3+1]? =Y p.1/\(lcells ls vs)[i*3+2]? =Y p.2:=by
 induction ls generalizing vs i with
 |nil=>
  cases vs with
  |nil=>simp at hp
  |cons v vs=>simp at h
 |cons l ls ih=>
  cases vs with
  |nil=>simp at h
  |cons v vs=>
   cases i with
   |zero=>simp at hp;subst hp;simp[lcells,aH]
   |succ i=>have:=ih (vs:=vs) (i:=i) (by simpa using h) (by simpa using hp);simp only[lcells,List.zip_cons_cons,List.flatMap_cons,aH]at*;rw[show(i+1)*3=i*3+1+1+1 by omega];simpa using this
theorem aM6{ls:List Lock}(k:Nat)(l:Lock)(x y:Value)(h:ls.length=vs.length)(hk:k<ls.length):
  (((lcells ls vs).set (k*3) (I J l.r)).set (k*3+1) x).set (k*3+2) y=lcells (ls.set k l) (vs.set k (x,y)):=by
 induction ls generalizing vs k with
 |nil=>simp at hk
 |cons q ls ih=>
  cases vs with
  |nil=>simp at h
  |cons v vs=>
   cases k with
   |zero=>simp[lcells]
   |succ k=>have:=ih (vs:=vs) k (by simpa using h) (by simpa using hk);simp only[lcells,List.set_cons_succ,List.zip_cons_cons,List.flatMap_cons]at*;rw[<-this,show(k+1)*3=k*3+1+1+1 by omega];simp
theorem lD{ls ls':List Lock}(h:ls.length=vs.length):lcells (ls++ls') (vs++vs')=lcells ls vs++lcells ls' vs':=by unfold lcells;rw[List.zip_append h];simp
def blks(p:Value×Value):List Nat:=p.1.ownBlock.toList++p.2.ownBlock.toList
structure OwnK(T:TypeId)(w:World)(B:Nat)(v:Value)(n:Nat)(ls:List Lock)(vs:List (Value×Value)):Prop where
 len:ls.length=n
 vlen:vs.length=n
 row:w.ownsRow B T 3 v n (lcells ls vs)
 hs:∀i p,vs[i]? =Y p->w.ownsRow B 232 2 p.1 (aH ls i).hs.length (hcells (aH ls i).hs)
 qs:∀i p,vs[i]? =Y p->w.ownsRow B 232 2 p.2 (aH ls i).qs.length (hcells (aH ls i).qs)
 apart:(v.ownBlock.toList++vs.flatMap blks).Nodup
def OwnLk(T:TypeId)(w:World)(B:Nat)(v:Value)(n:Nat)(ls:List Lock):Prop:=∃vs,OwnK T w B v n ls vs
variable{T:TypeId}{w w':World}{B n:Nat}{v:Value}{ls:List Lock}{vs:List (Value×Value)}
theorem OwnK.below(h:OwnK T w B v n ls vs)(hb:Below w.heap.size w w'):OwnK T w' B v n ls vs:=
 ⟨h.len,h.vlen,aF h.row hb,fun i p hp=>aF (h.hs i p hp) hb,fun i p hp=>aF (h.qs i p hp) hb,h.apart⟩
theorem OwnK.base(h:OwnK T w B v n ls vs)(hb:B'<=B):OwnK T w B' v n ls vs:=
 ⟨h.len,h.vlen,aP h.row hb,fun i p hp=>aP (h.hs i p hp) hb,fun i p hp=>aP (h.qs i p hp) hb,h.apart⟩
theorem OwnLk.below(h:OwnLk T w B v n ls)(hb:Below w.heap.size w w'):OwnLk T w' B v n ls:=by obtain⟨vs,h⟩:=h;exact⟨vs,h.below hb⟩
theorem OwnLk.base(h:OwnLk T w B v n ls)(hb:B'<=B):OwnLk T w B' v n ls:=by obtain⟨vs,h⟩:=h;exact⟨vs,h.base hb⟩
theorem OwnK.got(h:OwnK T w B v n ls vs)(hi:i<n):∃p,vs[i]? =Y p:=⟨vs[i]'(by rw[h.vlen];exact hi),by simp⟩
theorem OwnK.in(h:OwnK T w B v n ls vs)(hp:vs[i]? =Y p):i<n:=by
 rcases Nat.lt_or_ge i n with h1|h1
 .exact h1
 .rw[List.getElem?_eq_none (by rw[h.vlen];exact h1)]at hp;cases hp
theorem OwnK.bd(h:OwnK T w B v n ls vs)(hp:vs[i]? =Y p)(hg:g∈blks p):B<=g/\g<w.heap.size:=by
 unfold blks at hg;simp only[List.mem_append,Option.mem_toList]at hg;rcases hg with hg|hg
 .exact aG (h.hs i p hp) g hg
 .exact aG (h.qs i p hp) g hg
theorem OwnK.at(h:OwnK T w B (Z a n cap) n ls vs)(hm:dC ls<=1048576):LkAt w a n ls:=by
 refine⟨h.len,fun h0=>?_⟩;have hc:=aJ h.row;obtain⟨b,off,ha,hcc⟩:=hc.2 (by omega);refine⟨b,off,ha,fun i hi=>?_⟩;obtain⟨p,hp⟩:=h.got hi;have hl:=pC (by rw[h.len,h.vlen]) hp (ls:=ls);have o1:=h.hs i p hp;have o2:=h.qs i p hp;obtain⟨x,y⟩:=p;obtain⟨ah,ch,e1⟩:=dI o1;obtain⟨aq,cq,e2⟩:=dI o2;simp only at e1 e2 o1 o2 hl;subst e1 e2;have hsz:=iM hm i;refine⟨ah,_,ch,aq,_,cq,(hcc _ (by omega)).trans hl.1,?_,?_,aJ o1,aJ o2,by omega,by omega,fH o1,fH o2⟩
 .rw[Nat.add_assoc];exact(hcc _ (by omega)).trans hl.2.1
 .rw[Nat.add_assoc];exact(hcc _ (by omega)).trans hl.2.2
theorem OwnLk.at(h:OwnLk T w B (Z a n cap) n ls)(hm:dC ls<=1048576):LkAt w a n ls:=by obtain⟨vs,h⟩:=h;exact h.at hm
theorem OwnLk.len(h:OwnLk T w B v n ls):ls.length=n:=by obtain⟨vs,h⟩:=h;exact h.len
theorem aN5{A P C P':List Nat}(h:(A++(P++C)).Nodup)(hp:P'.Nodup)(hd:∀g∈P',g∉A/\g∉C):(A++(P'++C)).Nodup:=by
 simp only[List.nodup_append,List.mem_append]at*;obtain⟨hA,⟨_,hC,_⟩,hAP⟩:=h;refine⟨hA,⟨hp,hC,fun a ha b hb e=>(hd a ha).2 (e▸hb)⟩,fun a ha b hb e=>?_⟩;rcases hb with hb|hb
 .exact(hd b hb).1 (e▸ha)
 .exact hAP a ha b (.inr hb) e
theorem sL(hp:vs[k]? =Y p)(p':Value×Value):
  vs.flatMap blks=(vs.take k).flatMap blks++(blks p++(vs.drop (k+1)).flatMap blks)/\(vs.set k p').flatMap blks=(vs.take k).flatMap blks++(blks p'++(vs.drop (k+1)).flatMap blks):=by
 have hk:k<vs.length:=(List.getElem?_eq_some_iff.1 hp).1;have hpk:vs[k]=p:=by simpa[List.getElem?_eq_getElem hk]using hp
 constructor
 .conv=>lhs;rw[<-List.take_append_drop k vs]
  rw[List.drop_eq_getElem_cons hk,hpk];simp
 .rw[List.set_eq_take_append_cons_drop,if_pos hk];simp
theorem mI(h:g∈vs.flatMap blks):∃(i:Nat) (p:Value×Value),vs[i]? =Y p/\g∈blks p:=by rw[List.mem_flatMap]at h;obtain⟨p,hp,hg⟩:=h;obtain⟨i,hi,rfl⟩:=List.getElem_of_mem hp;exact⟨i,_,by simp[hi],hg⟩
theorem cL2{p':Value×Value}{H:Nat}(h:(v.ownBlock.toList++vs.flatMap blks).Nodup)(hp:vs[k]? =Y p)(hv:∀g,v.ownBlock=Y g->g<H)(ho:∀(i:Nat) (q:Value×Value),vs[i]? =Y q->∀g∈blks q,g<H)(hn:(blks p').Nodup)(hf:∀g∈blks p',H<=g):(v.ownBlock.toList++(vs.set k p').flatMap blks).Nodup:=by
 obtain⟨e1,e2⟩:=sL hp p';rw[e1,<-List.append_assoc]at h;rw[e2,<-List.append_assoc];refine aN5 h hn fun g hg=>⟨fun hA=>?_,fun hC=>?_⟩
 .rw[List.mem_append]at hA;rcases hA with hA|hA
  .have:=hv g (by simpa using hA);have:=hf g hg;omega
  .obtain⟨i,q,hq,hgq⟩:=mI hA;have hq':vs[i]? =Y q:=by
    rw[List.getElem?_take]at hq;split at hq
    .exact hq
    .cases hq
   have:=ho i q hq' g hgq;have:=hf g hg;omega
 .obtain⟨i,q,hq,hgq⟩:=mI hC;rw[List.getElem?_drop]at hq;have:=ho _ q hq g hgq;have:=hf g hg;omega
theorem nG(h:(v.ownBlock.toList++vs.flatMap blks).Nodup)(hp:vs[i]? =Y p)(hv:v.ownBlock=Y g):g∉blks p:=by rw[List.nodup_append]at h;intro hg;exact h.2.2 g (by simp[hv]) g (List.mem_flatMap.2 ⟨p,List.mem_of_getElem? hp,hg⟩) rfl
theorem aK8(h:(vs.flatMap blks).Nodup)(hij:i<j)(hp:vs[i]? =Y p)(hq:vs[j]? =Y q)(hg:g∈blks p):g∉blks q:=by have e:=(sL hp p).1;rw[e]at h;simp only[List.nodup_append,List.mem_append]at h;intro hgq;refine h.2.1.2.2 g hg g ?_ rfl;rw[List.mem_flatMap];refine⟨q,?_,hgq⟩;refine List.mem_of_getElem? (i:=j-(i+1)) ?_;rw[List.getElem?_drop,<-hq];congr 1;omega
theorem vR(h:(v.ownBlock.toList++vs.flatMap blks).Nodup)(hij:i≠j)(hp:vs[i]? =Y p)(hq:vs[j]? =Y q)(hg:g∈blks p):g∉blks q:=by
 have h2:=(List.nodup_append.1 h).2.1;rcases Nat.lt_or_gt_of_ne hij with h1|h1
 .exact aK8 h2 h1 hp hq hg
 .exact fun hgq=>aK8 h2 h1 hq hp hgq hg
theorem cL1(h:(v.ownBlock.toList++vs.flatMap blks).Nodup)(hp:vs[i]? =Y p)(h1:p.1.ownBlock=Y g):p.2.ownBlock≠Y g:=by have e:=(sL hp p).1;rw[e]at h;simp only[List.nodup_append,blks]at h;intro h2;exact h.2.1.2.1.1.2.2 g (by simp[h1]) g (by simp[h2]) rfl
theorem aS0{base:Nat}{size:Nat}(h:w.ownsRow base e size (Z (Y ⟨g,0,O⟩) n cap) n xs)(j:Nat)(a b c:Value):
  w.grownBy (((w.setCell ⟨g,j,O⟩ a).setCell ⟨g,j+1,O⟩ b).setCell ⟨g,j+2,O⟩ c) (Y g):=
 cW (cW (h.stored j a).2 ((h.stored j a).1.stored (j+1) b).2) (((h.stored j a).1.stored (j+1) b).1.stored (j+2) c).2
theorem sS(ls:List Lock)(k i:Nat)(l:Lock)(hk:k<ls.length):aH (ls.set k l) i=if k=i then l else aH ls i:=by
 unfold aH;split
 .next h=>subst h;simp[List.getD,hk]
 .next h=>simp[List.getD,h]
theorem OwnK.put{o:Nat}(h:OwnK T w0 B (Z (Y ⟨o,0,O⟩) n cap) n ls vs)(hb:Below w0.heap.size w0 w)
  (hx:w.ownsRow w0.heap.size 232 2 x l.hs.length (hcells l.hs)) (hy:w.ownsRow w0.heap.size 232 2 y l.qs.length (hcells l.qs)) (hxy:∀g,x.ownBlock=Y g->y.ownBlock≠Y g) (hk:k<n) (hB:B<=w0.heap.size):
  OwnK T (((w.setCell ⟨o,k*3,O⟩ (I J l.r)).setCell ⟨o,k*3+1,O⟩ x).setCell ⟨o,k*3+2,O⟩ y) B (Z (Y ⟨o,0,O⟩) n cap) n (ls.set k l) (vs.set k (x,y)):=by
 obtain⟨p,hp⟩:=h.got hk;have hr:=aF h.row hb;have gr:=aS0 hr (k*3) (I J l.r) x y;have hkl:k<ls.length:=by rw[h.len];exact hk
 have hol:=aG h.row o rfl;have fresh:∀g∈blks (x,y),w0.heap.size<=g:=by
  intro g hg;unfold blks at hg;simp only[List.mem_append,Option.mem_toList]at hg;rcases hg with hg|hg
  .exact(aG hx g hg).1
  .exact(aG hy g hg).1
 have hset:∀i q,(vs.set k (x,y))[i]? =Y q->(k=i/\q=(x,y))\/(k≠i/\vs[i]? =Y q):=by
  intro i q hq;by_cases hik:k=i
  .subst hik;rw[List.getElem?_set_self (by rw[h.vlen];exact hk)]at hq;cases hq;exact .inl ⟨rfl,rfl⟩
  .rw[List.getElem?_set_ne hik]at hq;exact .inr ⟨hik,hq⟩
 refine⟨by simpa using h.len,by simpa using h.vlen,?_,fun i q hq=>?_,fun i q hq=>?_,?_⟩
 .rw[<-aM6 k l x y (by rw[h.len,h.vlen]) hkl];exact bC4 hr _ _ _ _
 .rw[sS ls k i l hkl];rcases hset i q hq with⟨hik,rfl⟩|⟨hik,hq⟩
  .rw[if_pos hik];refine aP (aK hx gr fun g hg he=>?_) hB;have:=(aG hx g hg).1;simp at he;omega
  .rw[if_neg hik];refine aK (aF (h.hs i q hq) hb) gr fun g hg he=>?_;simp at he;subst he;exact nG h.apart hq rfl (by simp[blks,hg])
 .rw[sS ls k i l hkl];rcases hset i q hq with⟨hik,rfl⟩|⟨hik,hq⟩
  .rw[if_pos hik];refine aP (aK hy gr fun g hg he=>?_) hB;have:=(aG hy g hg).1;simp at he;omega
  .rw[if_neg hik];refine aK (aF (h.qs i q hq) hb) gr fun g hg he=>?_;simp at he;subst he;exact nG h.apart hq rfl (by simp[blks,hg])
 .refine cL2 h.apart hp (fun g hg=>(aG h.row g hg).2) (fun i q hq g hg=>(h.bd hq hg).2) ?_ fresh;unfold blks;rw[List.nodup_append];refine⟨?_,?_,?_⟩
  .cases x.ownBlock<;>simp
  .cases y.ownBlock<;>simp
  .intro a ha b hb' e;subst e;exact hxy a (by simpa using ha) (by simpa using hb')
theorem OwnLk.put{o:Nat}(h:OwnLk T w0 B (Z (Y ⟨o,0,O⟩) n cap) n ls)(hb:Below w0.heap.size w0 w)
  (hx:w.ownsRow w0.heap.size 232 2 x l.hs.length (hcells l.hs)) (hy:w.ownsRow w0.heap.size 232 2 y l.qs.length (hcells l.qs)) (hxy:∀g,x.ownBlock=Y g->y.ownBlock≠Y g) (hk:k<n) (hB:B<=w0.heap.size):
  OwnLk T (((w.setCell ⟨o,k*3,O⟩ (I J l.r)).setCell ⟨o,k*3+1,O⟩ x).setCell ⟨o,k*3+2,O⟩ y) B (Z (Y ⟨o,0,O⟩) n cap) n (ls.set k l):=by
 obtain⟨vs,h⟩:=h;exact⟨_,h.put hb hx hy hxy hk hB⟩
end
theorem aF8(r:Rec)(h1:inB r.kd 1 5=A')(h2:inB r.tx 1 999=A')(h3:eU r.kd=A'):r.fault=chg r.ky r.hd r.ol r.hs r.nw:=by unfold Rec.fault chg;simp[h1,h2,h3]
theorem uR(kd tx ky:Int)(hd:Bool)(ol:Int)(hs:Bool)(nw:Int)(w:World):
  Calls prog 77 #[U #[I J kd,I J tx,I J ky,X hd,I J ol,X hs,I J nw]] w fun e w'=>e=R' (I J (Rec.fault ⟨kd,tx,ky,hd,ol,hs,nw⟩))/\Below w.heap.size w w':=by
 by_cases k1:kd<1
 .go_enter func77,ntmps77
  go_wp2_with fail
  go_ret;exact⟨by simp[Rec.fault,inB];omega,q'⟩
 by_cases k2:5<kd
 .go_enter func77,ntmps77
  go_wp2_with fail
  go_ret;exact⟨by simp[Rec.fault,inB];omega,q'⟩
 have h1:Hid (inB kd 1 5=A'):=by show _=_;simp[inB];omega
 cases h2:inB tx 1 999
 .go_enter func77,ntmps77
  go_wp2_with(first|(go_at_call 55;refine(aA4 _ _).mono ?_;rintro e w'⟨rfl,rfl⟩))
  go_ret;exact⟨by simp[Rec.fault,h1.out,h2],q'⟩
 cases h3:eU kd
 .have hne:=fun w=>dG7 kd tx ky hd ol hs nw kd tx 0 F' 0 F' 0 w;simp only[BEq.rfl,Bool.true_and]at hne;have HC:Hid (Rec.fault ⟨kd,tx,ky,hd,ol,hs,nw⟩=if(ky==0&&hd==F'&&ol==0&&hs==F'&&nw==0)then 0 else 1):=by show _=_;unfold Rec.fault;simp only[h1.out,h2,h3];by_cases a1:ky=0<;>by_cases a2:ol=0<;>by_cases a3:nw=0<;>cases hd<;>cases hs<;>simp[a1,a2,a3]
  cases hb:(ky==0&&hd==F'&&ol==0&&hs==F'&&nw==0);all_goals
   simp only[hb,Bool.not_true,Bool.not_false]at hne;rw[HC.out,hb];clear hb HC;go_enter func77,ntmps77
   go_wp2_with(first|(go_at_call 55;refine(aA4 _ _).mono ?_;rintro e w'⟨rfl,rfl⟩)|(go_at_call 82;refine(nS _ _).mono ?_;rintro e w'⟨rfl,rfl⟩))
   go_ret;exact⟨rfl,q'⟩
 .have HC:Hid (Rec.fault ⟨kd,tx,ky,hd,ol,hs,nw⟩=chg ky hd ol hs nw):=aF8 ⟨kd,tx,ky,hd,ol,hs,nw⟩ h1.out h2 h3;rw[HC.out];clear HC;go_enter func77,ntmps77
  go_wp2_with(first|(go_at_call 55;refine(aA4 _ _).mono ?_;rintro e w'⟨rfl,rfl⟩)|(go_at_call 82;refine(nS _ _).mono ?_;rintro e w'⟨rfl,rfl⟩))
  refine(bV7 _ _ _ _ _ _ _ _).mono ?_;rintro e w1⟨rfl,b1⟩;go_wp2;go_ret;exact⟨rfl,cL b1⟩
theorem mD{a:Act}{E:Prop}(s x:Operand)
  (B n:Nat) (xs:List Value) (m:Nat) (cs:Array Value) (hm:0<m/\cs.size=m/\n+m<=1099511627776)
  (ho:o.op= .call {callee:=.builtin .append,args:=#[s,x],argTypes:=#[22,22]}) (hgd:o.guard=O)
  (hs:∃g cp,a.eval s=Z (Y ⟨g,0,O⟩) n cp/\w.ownsRow B 5 1 (Z (Y ⟨g,0,O⟩) n cp) n xs)
  (hx:∃h c t,a.eval x=Z (Y ⟨h,0,O⟩) m c/\w.heap[h]? =Y (M cs t (0,0)))
  (h1:∀u∈cs.toList,u.oneCell'=A') (hbase:B<=w.heap.size)
  (hK:∀g' cp' w',w'.ownsRow B 5 1 (Z (Y ⟨g',0,O⟩) (n+m) cp') (n+m) (xs++cs.toList)->Below B w w'->K (a.put o.dst (Z (Y ⟨g',0,O⟩) (n+m) cp')) w'):
  if Region.wanted o (yielded ops a.tmps)=A' then Oper.wp prog o a w K Q else E:=by
 obtain⟨g,cp,hs,hown⟩:=hs;exact dA3 s x B g n cp xs m cs ⟨hm.1,hm.2.1,hm.2.2,(gI hown).1⟩ ho hgd hs hx hown h1 hbase (fun g' cp' w' ho hg=>hK g' cp' w' ho hg.below)
theorem aF7{a:Act}(s x:Operand)
  (B n:Nat) (xs:List Value) (m:Nat) (cs:Array Value) (hm:0<m/\cs.size=m/\n+m<=1099511627776)
  (ho:o.op= .call {callee:=.builtin .append,args:=#[s,x],argTypes:=#[22,22]}) (hgd:o.guard=O)
  (hs:∃g cp,a.eval s=Z (Y ⟨g,0,O⟩) n cp/\w.ownsRow B 5 1 (Z (Y ⟨g,0,O⟩) n cp) n xs)
  (hx:∃h c t,a.eval x=Z (Y ⟨h,0,O⟩) m c/\w.heap[h]? =Y (M cs t (0,0)))
  (h1:∀u∈cs.toList,u.oneCell'=A') (hbase:B<=w.heap.size)
  (hK:∀g' cp' w',w'.ownsRow B 5 1 (Z (Y ⟨g',0,O⟩) (n+m) cp') (n+m) (xs++cs.toList)->Below B w w'->wpList prog ops Q rest (a.put o.dst (Z (Y ⟨g',0,O⟩) (n+m) cp')) w'):
  wpList prog ops Q (o::rest) a w:=by
 obtain⟨g,cp,hs,hown⟩:=hs;exact aP8 s x B g n cp xs m cs ⟨hm.1,hm.2.1,hm.2.2,(gI hown).1⟩ ho hgd hs hx hown h1 hbase (fun g' cp' w' ho hg=>hK g' cp' w' ho hg.below)
abbrev nO(kd tx ky:Int)(hd:Bool)(ol:Int)(hs:Bool)(nw:Int):Obj:=M #[I J kd,I J tx,I J ky,X hd,I J ol,X hs,I J nw] 79
theorem bB4{B:Nat}(xs:Array Value)(n:Nat)(hn:xs.size=n)(hB:B<=w.heap.size)(h1:n<=1000)(hg:g=w.heap.size):(w.alloc (M xs 5)).ownsRow B 5 1 (Z (Y ⟨g,0,O⟩) n n) n xs.toList:=by subst hn hg;exact World.ownsRow_lit w xs xs.size hB (by unfold maxLen;omega) (Nat.mul_one _).symm
theorem cD{o:Obj}(b1:Below (w.heap.size+1) (w.alloc o) w1):Below w.heap.size w w1:=
 cL (by simpa using b1)
theorem dR(b1:Below (w.heap.size+1) (w.alloc (M cs t)) w1)(i:Nat):w1.cell? ⟨w.heap.size,i,O⟩=cs[i]? :=
 cV (by simpa using b1) i
theorem pS(kd tx ky:Int)(hd:Bool)(ol:Int)(hs:Bool)(nw:Int)(w:World)(fit:Rec.Fit ⟨kd,tx,ky,hd,ol,hs,nw⟩):
  Calls prog 114 #[U #[I J kd,I J tx,I J ky,X hd,I J ol,X hs,I J nw]] w fun e w'=>∃g cp,e=R' (Z (Y ⟨g,0,O⟩) (Rec.len ⟨kd,tx,ky,hd,ol,hs,nw⟩) cp)/\w'.ownsRow w.heap.size 5 1 (Z (Y ⟨g,0,O⟩) (Rec.len ⟨kd,tx,ky,hd,ol,hs,nw⟩) cp) (Rec.len ⟨kd,tx,ky,hd,ol,hs,nw⟩) (bts (Rec.bytes ⟨kd,tx,ky,hd,ol,hs,nw⟩))/\Below w.heap.size w w':=by
 have hbts:=aA3 (Rec.body_bytes fit);obtain⟨⟨k0,k1⟩,⟨t0,t1⟩,⟨y0,y1⟩,⟨o0,o1⟩,⟨n0,n1⟩,hrest⟩:=fit;clear hrest;simp only at k0 k1 t0 t1 y0 y1 o0 o1 n0 n1;have hw0:IntKind.u8.wrap kd=kd:=by simp[IntKind.wrap_u8];omega
 have hw1:IntKind.u8.wrap ky=ky:=by simp[IntKind.wrap_u8];omega
 go_enter func114,ntmps114
 go_upto_region 1 with fail
 go_cut [3] (fun s wx=>∃g c,s=Z (Y ⟨g,0,O⟩) 3 c/\wx.ownsRow (w.heap.size+1) 5 1 (Z (Y ⟨g,0,O⟩) 3 c) 3 (bts [kd,tx / 256,tx%256])/\Below (w.heap.size+1) (w.alloc (nO kd tx ky hd ol hs nw)) wx)
 case first=>
  have HS:Hid (∀W',Below (w.heap.size+1) (w.alloc (nO kd tx ky hd ol hs nw)) W'->W'.cell? ⟨w.heap.size,0,O⟩=Y (I J kd)/\W'.cell? ⟨w.heap.size,1,O⟩=Y (I J tx)/\Below (w.heap.size+1) (w.alloc (nO kd tx ky hd ol hs nw)) W'):=fun W' hb=>⟨by simpa using dR hb 0,by simpa using dR hb 1,hb⟩
  refine R0 (fun W'=>W'.cell? ⟨w.heap.size,0,O⟩=Y (I J kd)/\W'.cell? ⟨w.heap.size,1,O⟩=Y (I J tx)/\Below (w.heap.size+1) (w.alloc (nO kd tx ky hd ol hs nw)) W') (HS.out _ u'.drew) (fun hH=>?_);refine R5 0 1 2 4 5 ?_;refine wpAnyH_ready (rs:=[3,6]) (by kernel_rfl) (by simp) ?_;refine AllReadyH.cons rfl (fun K hK=>?_) (AllReadyH.cons rfl (fun K hK=>?_) AllReadyH.nil);focus
   go_simp;refine hK.out _ _ ?_ (fun hH=>?_)
   .exact HS.out _ (hH.2.2.alloc (by simp) _)
   clear hK K;refine R6 6 (fun K hK=>?_);go_simp;refine(vY _ _ (by omega) (by omega)).mono ?_;rintro e w'⟨rfl,rfl⟩;go_wp2_with fail
   refine hK.out _ _ ?_ (fun hH=>?_)
   .exact HS.out _ (hH.2.2.alloc (by simp) _)
   clear hK K;refine R6 7 (fun K hK=>?_);refine mD (.tmp 8) (.tmp 11) (w.heap.size+1) 1 [I .u8 kd] 2 #[I .u8 (tx / 256),I .u8 (tx%256)] ⟨by omega,rfl,by omega⟩ rfl rfl ⟨_,_,rfl,?_⟩ ⟨_,_,5,rfl,?_⟩ ?_ ?_ ?_
   .exact(bB4 #[I .u8 kd] 1 rfl (by simp) (by omega) (by simp)).alloc _
   .exact aO (by simp)
   .simp[Value.oneCell']
   .simp
   intro g1 c1 w1 own1 gr1;have bw1:=hH.2.2.trans gr1;refine hK.out _ _ ?_ (fun hH=>?_)
   .exact HS.out _ bw1
   clear hK K;refine J3 ?_;refine R1 8 ?_;refine R7 ?_
  rotate_left;focus
   go_simp;refine(vY _ _ (by omega) (by omega)).mono ?_;rintro e w'⟨rfl,rfl⟩;go_wp2_with fail
   refine hK.out _ _ ?_ (fun hH=>?_)
   .exact HS.out _ (hH.2.2.alloc (by simp) _)
   clear hK K;refine R6 3 (fun K hK=>?_);go_simp;refine hK.out _ _ ?_ (fun hH=>?_)
   .exact HS.out _ (hH.2.2.alloc (by simp) _)
   clear hK K;refine R6 7 (fun K hK=>?_);refine mD (.tmp 8) (.tmp 11) (w.heap.size+1) 1 [I .u8 kd] 2 #[I .u8 (tx / 256),I .u8 (tx%256)] ⟨by omega,rfl,by omega⟩ rfl rfl ⟨_,_,rfl,?_⟩ ⟨_,_,5,rfl,?_⟩ ?_ ?_ ?_
   .refine World.ownsRow.drew ?_;exact bB4 #[I .u8 kd] 1 rfl (by simp) (by omega) (by simp)
   .exact(dJ (by simp)).trans (aO (by simp))
   .simp[Value.oneCell']
   .simp
   intro g1 c1 w1 own1 gr1;have bw1:=hH.2.2.trans gr1;refine hK.out _ _ ?_ (fun hH=>?_)
   .exact HS.out _ bw1
   clear hK K;refine J3 ?_;refine R1 8 ?_;refine R7 ?_
  rotate_left;all_goals
   go_wp2_with fail
   go_meet;exact⟨g1,c1,rfl,by simpa[bts]using own1,bw1⟩
 case rest=>
  obtain⟨g,c,rfl,own,hB⟩:=hcut;have q0:=dR hB 0;have q3:=dR hB 3;have q5:=dR hB 5;simp at q0 q3 q5;have zb:=hB.size;simp at zb;cases hset:eU kd
  .have HB:Hid (Rec.body ⟨kd,tx,ky,hd,ol,hs,nw⟩=[kd,tx / 256,tx%256]):=by show _=_;simp[Rec.body,hset]
   have HL:Hid (Rec.len ⟨kd,tx,ky,hd,ol,hs,nw⟩=5):=by show _=_;simp[Rec.len,hset]
   have HE:Hid (Rec.bytes ⟨kd,tx,ky,hd,ol,hs,nw⟩=gW [kd,tx / 256,tx%256]):=by show _=_;simp[Rec.bytes,HB.out]
   rw[HB.out]at hbts;clear HB;generalize hp:[kd,tx / 256,tx%256]=p at*;obtain⟨s0,s1⟩:=oW p;go_wp2_with(go_at_call 112;refine(lM _ _).mono ?_;rintro e w1⟨rfl,hw1⟩;subst w1)
   refine(aF2 _ 3 c p _ (by simpa using aJ own) hbts (by omega)).mono ?_;rintro e w1⟨rfl,hw1⟩;subst w1;generalize hq:gP p=q at*;go_wp2_with fail
   refine(vY _ _ s0 (by omega)).mono ?_;rintro e w2⟨rfl,rfl⟩;go_wp2_with(at_builtin;refine aF7 (.tmp 37) (.tmp 40) (w.heap.size+1) 3 (bts p) 2 #[I .u8 (q / 256),I .u8 (q%256)] ⟨by omega,rfl,by omega⟩ ?_ ?_ ?_ ?_ ?_ ?_ ?_;exact rfl;exact rfl;exact⟨_,_,rfl,own.alloc _⟩;(refine⟨_,_,5,rfl,?_⟩;exact aO rfl);(simp[Value.oneCell']);(simp;omega);intro g1 c1 w1 own1 gr1)
   go_ret;rw[HL.out,HE.out];refine⟨g1,c1,rfl,?_,?_⟩
   .have:=aP own1 (base':=w.heap.size) (by omega);simpa[gW,bts,hq]using this
   .exact cD (hB.trans ((u'.alloc zb _).trans gr1))
  .have HL:Hid (Rec.len ⟨kd,tx,ky,hd,ol,hs,nw⟩=11):=by show _=_;simp[Rec.len,hset]
   have HB:Hid (Rec.body ⟨kd,tx,ky,hd,ol,hs,nw⟩=[kd,tx / 256,tx%256,ky,Rec.flags ⟨kd,tx,ky,hd,ol,hs,nw⟩,ol / 256,ol%256,nw / 256,nw%256]):=by show _=_;simp[Rec.body,hset,Rec.more]
   have HE:Hid (Rec.bytes ⟨kd,tx,ky,hd,ol,hs,nw⟩=gW [kd,tx / 256,tx%256,ky,Rec.flags ⟨kd,tx,ky,hd,ol,hs,nw⟩,ol / 256,ol%256,nw / 256,nw%256]):=by show _=_;simp[Rec.bytes,HB.out]
   rw[HB.out]at hbts;clear HB;go_upto_if 17 with(go_at_call 112;refine(lM _ _).mono ?_;rintro e w1⟨rfl,hw1⟩;subst w1)
   go_cut [4] (fun s wx=>s=I .u8 (if hd then 1 else 0)/\wx=wc)
   case first=>
    cases hd;all_goals
     go_wp2_with fail
     go_meet;exact⟨rfl,rfl⟩
   case rest=>
   obtain⟨rfl,hwc⟩:=hcut;subst hwc;go_upto_if 19 with fail
   go_cut [4] (fun s wx=>s=I .u8 (Rec.flags ⟨kd,tx,ky,hd,ol,hs,nw⟩)/\wx=wc)
   case first=>
    cases hs<;>cases hd
    all_goals
     go_wp2_with fail
     go_meet;exact⟨rfl,rfl⟩
   case rest=>
   obtain⟨rfl,hwc⟩:=hcut;subst hwc;have hfl:=Rec.flags_bd ⟨kd,tx,ky,hd,ol,hs,nw⟩;generalize Rec.flags ⟨kd,tx,ky,hd,ol,hs,nw⟩=fl at*;go_upto_region 8 with fail
   go_cut [3] (fun s wx=>∃g c,s=Z (Y ⟨g,0,O⟩) 9 c/\wx.ownsRow (w.heap.size+1) 5 1 (Z (Y ⟨g,0,O⟩) 9 c) 9 (bts [kd,tx / 256,tx%256,ky,fl,ol / 256,ol%256,nw / 256,nw%256])/\Below (w.heap.size+1) (w.alloc (nO kd tx ky hd ol hs nw)) wx)
   case first=>
    have HS:Hid (∀W',Below (w.heap.size+1) (w.alloc (nO kd tx ky hd ol hs nw)) W'->W'.cell? ⟨w.heap.size,2,O⟩=Y (I J ky)/\W'.cell? ⟨w.heap.size,4,O⟩=Y (I J ol)/\W'.cell? ⟨w.heap.size,6,O⟩=Y (I J nw)/\Below (w.heap.size+1) (w.alloc (nO kd tx ky hd ol hs nw)) W'):=fun W' hb=>⟨by simpa using dR hb 2,by simpa using dR hb 4,by simpa using dR hb 6,hb⟩
    refine R0 (fun W'=>W'.cell? ⟨w.heap.size,2,O⟩=Y (I J ky)/\W'.cell? ⟨w.heap.size,4,O⟩=Y (I J ol)/\W'.cell? ⟨w.heap.size,6,O⟩=Y (I J nw)/\Below (w.heap.size+1) (w.alloc (nO kd tx ky hd ol hs nw)) W') (HS.out _ hB.drew) (fun hH=>?_);refine R5 0 1 2 3 4 ?_;refine R4 7 8 11 12 ?_;refine R6 5 (fun K hK=>?_);go_simp;refine hK.out _ _ ?_ (fun hH=>?_)
    .exact HS.out _ (hH.2.2.2.alloc (by simp;omega) _)
    clear hK K;refine R6 6 (fun K hK=>?_);refine mD (.tmp 22) (.tmp 27) (w.heap.size+1) 3 (bts [kd,tx / 256,tx%256]) 2 #[I .u8 ky,I .u8 fl] ⟨by omega,rfl,by omega⟩ rfl rfl ⟨_,_,rfl,?_⟩ ⟨_,_,5,rfl,?_⟩ ?_ ?_ ?_
    .exact(own.alloc _).drew
    .exact aO (by simp)
    .simp[Value.oneCell']
    .simp;omega
    intro g1 c1 w1 own1 gr1;have bw1:=hH.2.2.2.trans gr1;refine hK.out _ _ ?_ (fun hH=>?_)
    .exact HS.out _ bw1
    clear hK K;refine J3 ?_;refine R6 9 (fun K hK=>?_);go_simp;have zw1:=bw1.size;simp at zw1;refine(vY _ _ (by omega) (by omega)).mono ?_;rintro e w'⟨rfl,rfl⟩;go_wp2_with fail
    refine hK.out _ _ ?_ (fun hH=>?_)
    .exact HS.out _ (hH.2.2.2.alloc (by omega) _)
    clear hK K;refine R6 10 (fun K hK=>?_);refine mD (.tmp 28) (.tmp 31) (w.heap.size+1) 5 (bts [kd,tx / 256,tx%256]++[I .u8 ky,I .u8 fl]) 2 #[I .u8 (ol / 256),I .u8 (ol%256)] ⟨by omega,rfl,by omega⟩ rfl rfl ⟨_,_,rfl,?_⟩ ⟨_,_,5,rfl,?_⟩ ?_ ?_ ?_
    .exact own1.alloc _
    .exact aO (by simp)
    .simp[Value.oneCell']
    .simp;omega
    intro g2 c2 w2 own2 gr2;have bw2:=hH.2.2.2.trans gr2;refine hK.out _ _ ?_ (fun hH=>?_)
    .exact HS.out _ bw2
    clear hK K;refine J3 ?_;refine R6 13 (fun K hK=>?_);go_simp;have zw2:=bw2.size;simp at zw2;refine(vY _ _ (by omega) (by omega)).mono ?_;rintro e w'⟨rfl,rfl⟩;go_wp2_with fail
    refine hK.out _ _ ?_ (fun hH=>?_)
    .exact HS.out _ (hH.2.2.2.alloc (by omega) _)
    clear hK K;refine R6 14 (fun K hK=>?_);refine mD (.tmp 32) (.tmp 35) (w.heap.size+1) 7 (bts [kd,tx / 256,tx%256]++[I .u8 ky,I .u8 fl]++[I .u8 (ol / 256),I .u8 (ol%256)]) 2 #[I .u8 (nw / 256),I .u8 (nw%256)] ⟨by omega,rfl,by omega⟩ rfl rfl ⟨_,_,rfl,?_⟩ ⟨_,_,5,rfl,?_⟩ ?_ ?_ ?_
    .exact own2.alloc _
    .exact aO (by simp)
    .simp[Value.oneCell']
    .simp;omega
    intro g3 c3 w3 own3 gr3;have bw3:=hH.2.2.2.trans gr3;refine hK.out _ _ ?_ (fun hH=>?_)
    .exact HS.out _ bw3
    clear hK K;refine J3 ?_;refine R1 15 ?_;refine R7 ?_;go_wp2_with fail
    go_meet;exact⟨g3,c3,rfl,by simpa[bts]using own3,bw3⟩
   case rest=>
   clear own hB q0 q3 q5 zb;obtain⟨g,c,rfl,own,hB⟩:=hcut;have zb:=hB.size;simp at zb;generalize hp:[kd,tx / 256,tx%256,ky,fl,ol / 256,ol%256,nw / 256,nw%256]=p at*;obtain⟨s0,s1⟩:=oW p;go_wp2_with fail
   refine(aF2 _ 9 c p _ (by simpa using aJ own) hbts (by omega)).mono ?_;rintro e w1⟨rfl,hw1⟩;subst w1;generalize hq:gP p=q at*;go_wp2_with fail
   refine(vY _ _ s0 (by omega)).mono ?_;rintro e w2⟨rfl,rfl⟩;go_wp2_with(at_builtin;refine aF7 (.tmp 37) (.tmp 40) (w.heap.size+1) 9 (bts p) 2 #[I .u8 (q / 256),I .u8 (q%256)] ⟨by omega,rfl,by omega⟩ ?_ ?_ ?_ ?_ ?_ ?_ ?_;exact rfl;exact rfl;exact⟨_,_,rfl,own.alloc _⟩;(refine⟨_,_,5,rfl,?_⟩;exact aO rfl);(simp[Value.oneCell']);(simp;omega);intro g1 c1 w1 own1 gr1)
   go_ret;rw[HL.out,HE.out];refine⟨g1,c1,rfl,?_,?_⟩
   .have:=aP own1 (base':=w.heap.size) (by omega);simpa[gW,bts,hq]using this
   .exact cD (hB.trans ((u'.alloc zb _).trans gr1))
section
open Go.Maps
theorem jE{a b:Bool}(h:a=b):R' (X a)=R' (X b):=by rw[h]
theorem fS(a:Option Addr)(n cap:Nat)(t:Int)(hs:List Hold)(w:World)(h:CellsAt w a (n*2) (hcells hs))(hn:n<=1048576):
  Calls prog 171 #[Z a n cap,I J t] w fun e w'=>e=R' (I J (Ch.atH hs t))/\w'=w:=by
 have HL:=h.hlen;go_enter func171,ntmps171
 go_wp2;go_loop [5] (fun i=>∃k:Nat,k<=n/\i=I J k/\Hid (aV (hs.take k) t=F')) (fun i=>n-(intOf i).toNat)
 case atStart=>exact⟨0,Nat.zero_le _,rfl,rfl⟩
 case round=>
  obtain⟨k,hk,rfl,HH⟩:=hrel;by_cases hlt:k<n
  .have hkl:k<hs.length:=by have:=HL.out;omega
   have HS:=hid (fun he=>cH0 (t:=t) hkl HH.out he);have HN:=hid (fun he=>cG7 (p:=fun(h:Hold)=>h.t==t) Hold.zero hkl HH.out he);obtain⟨b,off,rfl,q0,q1⟩:=h.hold hlt;have hbl:=aD q0;generalize hs.getD k Hold.zero=r at*;obtain⟨rt,rm⟩:=r;simp only at q0 q1 HS HN;by_cases he:rt=t
   .subst he;go_wp2;go_ret;exact⟨cK (HS.out (by simp)).1.symm,rfl⟩
   .have he':(rt==t)=F':=by simpa using he
    go_wp2;go_round
    case rel=>exact⟨k+1,by omega,by go_num,HN.out he'⟩
    case measure=>simp[intOf];omega
  .obtain rfl:k=n:=by omega
   go_wp2;go_ret;exact⟨cK (aT4 (by have h1:=HH.out;have h2:=HL.out;rw[h2,List.take_length]at h1;exact h1)).symm,rfl⟩
theorem CellsAt.htake(h:CellsAt w a (n*2) (hcells hs))(hk:k<=n):CellsAt w a (k*2) (hcells (hs.take k)):=by rw[jX];refine⟨by rw[List.length_take,h.1];omega,fun h0=>?_⟩;obtain⟨b,off,ha,hc⟩:=h.2 (by omega);refine⟨b,off,ha,fun i hi=>?_⟩;rw[hc i (by omega),List.getElem?_take,if_pos hi]
theorem qR(a:Option Addr)(n cap:Nat)(hs:List Hold)(w:World)(h:CellsAt w a (n*2) (hcells hs))(hn:n<=1048576):
  Calls prog 191 #[Z a n cap] w fun e w'=>e=R' (I J (aW4 hs))/\w'=w:=by
 have HL:=h.hlen;go_enter func191,ntmps191
 go_wp2;go_loop [3] (fun i=>∃k:Nat,k<=n/\i=I J k/\Hid (aZ (hs.take k)=A')) (fun i=>n-(intOf i).toNat)
 case atStart=>exact⟨0,Nat.zero_le _,rfl,rfl⟩
 case round=>
  obtain⟨k,hk,rfl,HH⟩:=hrel;by_cases hlt:k<n
  .have hkl:k<hs.length:=by have:=HL.out;omega
   have HS:=hid (fun he=>tY (p:=lU) Hold.zero hkl he);have HN:=hid (fun he=>wK (p:=lU) Hold.zero hkl HH.out he);obtain⟨b,off,rfl,q0,q1⟩:=h.hold hlt;have hbl:=aD q0;generalize hs.getD k Hold.zero=r at*;obtain⟨rt,rm⟩:=r;simp only[lU]at q0 q1 HS HN;have IT:=fun W=>aV7 rt W;have IM:=fun W=>cU rm 1 5 W;cases ht:inB rt 1 999;all_goals cases hm:inB rm 1 5
   all_goals rw[ht]at IT
   all_goals rw[hm]at IM
   all_goals go_wp2_with(first|(go_at_call 64;refine(IT _).mono ?_;rintro e w'⟨rfl,rfl⟩)|(go_at_call 101;refine(IM _).mono ?_;rintro e w'⟨rfl,rfl⟩))
   iterate 3
    .go_ret;exact⟨cK (uD (HS.out (by rw[ht,hm];rfl))).symm,rfl⟩
   .go_round
    case rel=>exact⟨k+1,by omega,by go_num,HN.out (by rw[ht,hm];rfl)⟩
    case measure=>simp[intOf];omega
  .obtain rfl:k=n:=by omega
   go_wp2;go_ret;exact⟨cK (wY (by have h1:=HH.out;have h2:=HL.out;rw[h2,List.take_length]at h1;exact h1)).symm,rfl⟩
theorem iX(a:Option Addr)(n cap:Nat)(t m:Int)(hs:List Hold)(w:World)(h:CellsAt w a (n*2) (hcells hs))(hn:n<=1048576)(hg:aZ hs=A')(hm:Ch.isM m=A'):
  Calls prog 193 #[Z a n cap,I J t,I J m] w fun e w'=>e=R' (X (eJ hs t m))/\w'=w:=by
 have HL:=h.hlen;have HG:=hid hg;clear hg;go_enter func193,ntmps193
 go_wp2;go_loop [7] (fun i=>∃k:Nat,k<=n/\i=I J k/\Hid (eJ (hs.take k) t m=A')) (fun i=>n-(intOf i).toNat)
 case atStart=>exact⟨0,Nat.zero_le _,rfl,rfl⟩
 case round=>
  obtain⟨k,hk,rfl,HH⟩:=hrel;by_cases hlt:k<n
  .have hkl:k<hs.length:=by have:=HL.out;omega
   have HS:=hid (fun he=>tY (p:=fun(h:Hold)=>h.t==t||kH h.m m) Hold.zero hkl he);have HN:=hid (fun he=>wK (p:=fun(h:Hold)=>h.t==t||kH h.m m) Hold.zero hkl HH.out he);have HM:=hid (jS (jO HG.out hkl)).1;obtain⟨b,off,rfl,q0,q1⟩:=h.hold hlt;have hbl:=aD q0;generalize hs.getD k Hold.zero=r at*;obtain⟨rt,rm⟩:=r;simp only at q0 q1 HS HN HM;have IT:=fun W=>aV8 rm m W HM.out hm;have HF:Hid (kH rm m=Ch.tab rA rm m):=by show _=_;unfold kH;rw[HM.out,hm];rfl
   by_cases he:rt=t
   .subst he;go_wp2;go_round
    case rel=>exact⟨k+1,by omega,by go_num,HN.out (by simp)⟩
    case measure=>simp[intOf];omega
   .have he':(rt==t)=F':=by simpa using he
    have hne':(rt !=t)=A':=by simpa using he
    cases hf:Ch.tab rA rm m;all_goals rw[hf]at IT
    .go_wp2_with(go_at_call 205;refine(IT _).mono ?_;rintro e w'⟨rfl,rfl⟩)
     go_ret;exact⟨jE (HS.out (by rw[he',HF.out,hf];rfl)).symm,rfl⟩
    .go_wp2_with(go_at_call 205;refine(IT _).mono ?_;rintro e w'⟨rfl,rfl⟩)
     go_round
     case rel=>exact⟨k+1,by omega,by go_num,HN.out (by rw[he',HF.out,hf];rfl)⟩
     case measure=>simp[intOf];omega
  .obtain rfl:k=n:=by omega
   go_wp2;go_ret;exact⟨jE (by have h1:=HH.out;have h2:=HL.out;rw[h2,List.take_length]at h1;exact h1.symm),rfl⟩
theorem aD6(a:Option Addr)(n cap:Nat)(hs:List Hold)(w:World)(h:CellsAt w a (n*2) (hcells hs))(hn:n<=1048576)(hcap:n<=cap):
  Calls prog 192 #[Z a n cap] w fun e w'=>e=R' (X (cP hs))/\Below w.heap.size w w':=by
 have HL:=h.hlen;go_enter func192,ntmps192
 go_wp2;go_loopw [3] (fun i wr=>∃k:Nat,k<=n/\i=I J k/\Hid (jU hs k=F')/\Below w.heap.size w wr) (fun i _=>n-(intOf i).toNat)
 case atStart=>exact⟨0,Nat.zero_le _,rfl,rfl,u'⟩
 case round=>
  obtain⟨k,hk,rfl,HH,hB⟩:=hrel;by_cases hlt:k<n
  .have hkl:k<hs.length:=by have:=HL.out;omega
   have HS:=hid (fun he=>aP3 hkl he);have HN:=hid (fun he=>aQ1 (k:=k) HH.out he);have h1:=h.below hB;have hT:=h1.htake hk;obtain⟨b,off,rfl,q0,q1⟩:=h1.hold hlt;have hbl:=aD q0;generalize hs.getD k Hold.zero=r at*;obtain⟨rt,rm⟩:=r;simp only at q0 q1 HS HN;have hkc:k<=cap:=by omega
   clear q1;rcases eA (hs.take k) rt with⟨he,HAT,_⟩|⟨j,hj,HAT,he,_⟩
   .have HA:=hid he;clear he;go_wp2_with fail
    refine R0 (fun W'=>W'.cell? ⟨b,off+k*2,O⟩=Y (I J rt)/\CellsAt W' (Y ⟨b,off,O⟩) (k*2) (hcells (hs.take k))/\Below w.heap.size w W') (⟨q0,hT,hB.drew⟩) (fun hH=>?_);refine R5 0 1 2 3 4 ?_;refine R3 5 6 7 ?_;refine R6 8 (fun K hK=>?_);go_simp;refine(fS _ k _ rt (hs.take k) _ hH.2.1 (by omega)).mono ?_;rintro e w2⟨rfl,rfl⟩;rw[HAT];go_wp2_with fail
    refine hK.out _ _ ?_ (fun hH=>?_)
    .exact hH
    clear hK K;refine R1 9 ?_;refine R7 ?_;go_wp2;go_roundw;case rel=>exact⟨k+1,by omega,by go_num,HN.out HA.out,hH.2.2⟩
    case measure=>simp[intOf];omega
   .have HA:=hid he;clear he;go_wp2_with fail
    refine R0 (fun W'=>W'.cell? ⟨b,off+k*2,O⟩=Y (I J rt)/\CellsAt W' (Y ⟨b,off,O⟩) (k*2) (hcells (hs.take k))/\Below w.heap.size w W') (⟨q0,hT,hB.drew⟩) (fun hH=>?_);refine R5 0 1 2 3 4 ?_;refine R3 5 6 7 ?_;refine R6 8 (fun K hK=>?_);go_simp;refine(fS _ k _ rt (hs.take k) _ hH.2.1 (by omega)).mono ?_;rintro e w2⟨rfl,rfl⟩;rw[HAT];go_wp2_with fail
    refine hK.out _ _ ?_ (fun hH=>?_)
    .exact hH
    clear hK K;refine R1 9 ?_;refine R7 ?_;go_wp2;go_ret;exact⟨jE (HS.out HA.out).symm,hH.2.2⟩
  .obtain rfl:k=n:=by omega
   go_wp2;go_ret;exact⟨jE (by have h1:=HH.out;have h2:=HL.out;unfold cP;rw[<-h2];exact h1.symm),hB⟩
end
theorem cR7{c0 c1 c2:Value}(b:Below (w.alloc (M #[c0,c1,c2] t)).heap.size (w.alloc (M #[c0,c1,c2] t)) w1):
  w1.cell? ⟨w.heap.size,0,O⟩=Y c0/\w1.cell? ⟨w.heap.size,1,O⟩=Y c1/\w1.cell? ⟨w.heap.size,2,O⟩=Y c2/\w1.frozen? ⟨w.heap.size,0,O⟩=F'/\w1.frozen? ⟨w.heap.size,1,O⟩=F'/\w1.frozen? ⟨w.heap.size,2,O⟩=F':=by
 obtain⟨cA,fA⟩:=uH b;have x0:=cA w.heap.size 0 (by simp);have x1:=cA w.heap.size 1 (by simp);have x2:=cA w.heap.size 2 (by simp);have f0:=fA w.heap.size 0 (by simp);have f1:=fA w.heap.size 1 (by simp);have f2:=fA w.heap.size 2 (by simp);simp[go_sem]at x0 x1 x2 f0 f1 f2;exact⟨x0,x1,x2,f0,f1,f2⟩
theorem oS(a:Option Addr)(n cap:Nat)(key:Int)(ls:List (List Row))(w:World)(h:LvAt w a n ls)(hs:aW ls<=1048576)(hg:∀k,k<n->(ls.getD k []).length≠0):
  Calls prog 208 #[Z a n cap,I J key] w fun e w'=>e=R' (U #[I J (Ch.bf key (Ch.has ls key)).k,X (Ch.bf key (Ch.has ls key)).h,I J (Ch.bf key (Ch.has ls key)).v])/\Below w.heap.size w w':=by
 have b0:=f' w (M #[I J 0,X F',I J 0] 263);have FI:=fun W hW=>tC a n cap key ls W hW hs hg;have HR:=hid (fun rk rv hf=>congrArg (Ch.bf key) (bX3 (ls:=ls) (key:=key) (rk:=rk) (rv:=rv) hf));have HG:=hid (fun rk rv hf=>congrArg (Ch.bf key) (bA3 (ls:=ls) (key:=key) (rk:=rk) (rv:=rv) hf));have HN:=hid (fun hf=>congrArg (Ch.bf key) (bJ8 (ls:=ls) (key:=key) hf));generalize Ch.bf key (Ch.has ls key)=X' at*;go_enter func208,ntmps208
 go_wp2_with fail
 refine(FI _ (h.below b0)).mono ?_;rintro e w1⟨⟨rk,rv,rg⟩,ok,rfl,his,b1⟩;obtain⟨x0,x1,x2,f0,f1,f2⟩:=cR7 b1;have hz:=aD x0;have bE:=b0.trans (b1.mono b0.size);clear b1 FI;rcases his with⟨rfl,hf⟩|⟨rfl,hf⟩
 .cases rg
  .have HX:=hid (HR.out _ _ hf);clear hf HR HG HN;go_wp2;exact bodyPost_ret (v:=U #[I J key,X A',I J rv]) (by simp[results,Tryz.results208,go_sem,x0,x1,x2,hz]) rfl ⟨by rw[HX.out];rfl,Below.alloc (((bE.setCell (p:=⟨w.heap.size,0,O⟩) z' _).setCell (p:=⟨w.heap.size,1,O⟩) z' _).setCell (p:=⟨w.heap.size,2,O⟩) z' _) (by simp;omega) _⟩
  .have HX:=hid (HG.out _ _ hf);clear hf HR HG HN;go_wp2;exact bodyPost_ret (v:=U #[I J key,X F',I J 0]) (by simp[results,Tryz.results208,go_sem,x0,x1,x2,hz]) rfl ⟨by rw[HX.out];rfl,Below.alloc (((bE.setCell (p:=⟨w.heap.size,0,O⟩) z' _).setCell (p:=⟨w.heap.size,1,O⟩) z' _).setCell (p:=⟨w.heap.size,2,O⟩) z' _) (by simp;omega) _⟩
 .have HX:=hid (HN.out hf);clear hf HR HG HN;go_wp2;exact bodyPost_ret (v:=U #[I J key,X F',I J 0]) (by simp[results,Tryz.results208,go_sem,x0,x1,x2,hz]) rfl ⟨by rw[HX.out];rfl,Below.alloc (((bE.setCell (p:=⟨w.heap.size,0,O⟩) z' _).setCell (p:=⟨w.heap.size,1,O⟩) z' _).setCell (p:=⟨w.heap.size,2,O⟩) z' _) (by simp;omega) _⟩
theorem bJ6{key:Int}(hl:n=ls.length)(hc:(aB4 ls key !=0)=F'):∀k,k<n->(ls.getD k []).length≠0:=by intro k hk;exact(fR (bF2 (ls:=ls) (key:=key) (by simpa using hc)).1 k (by omega)).1
theorem aB7(h:cT bs=0):bs.length<=40/\eE bs=0:=by
 unfold cT at h;split at h
 .cases h
 .exact⟨by omega,h⟩
theorem aY7(h:eE (b::bs)=0):b.fault=0/\eE bs=0:=by
 unfold eE at h;split at h
 .rename_i hc;rw[h]at hc;simp at hc
 .rename_i hc;exact⟨by simpa using hc,h⟩
theorem qZ(h:b.fault=0):inB b.k 0 99=A'/\inB b.v 0 9999=A':=by
 unfold Bf.fault at h;split at h
 .cases h
 .rename_i hc
  simpa using hc
theorem fM{x lo hi:Int}(h:inB x lo hi=A'):lo<=x/\x<=hi:=by unfold inB at h;simpa using h
theorem vF{kd:Int}(hkd:kd=2\/kd=3)(hg:aL ls=0)(ht:inB tx 1 999=A')(hb:b.fault=0):(nP kd ls tx b.k b.h b.v).Fit:=by
 obtain⟨h1,h2⟩:=qZ hb;have h3:=(qZ (cH2 hg h1)).2;refine⟨?_,fM ht,fM h1,fM h3,fM h2,fun hs=>?_⟩
 .show 1<=kd/\kd<=5;omega
 .have:eU kd=A':=by rcases hkd with rfl|rfl<;>rfl
  rw[show(nP kd ls tx b.k b.h b.v).kd=kd from rfl,this]at hs;cases hs
theorem aY5(hg:aL ls=0)(ht:inB tx 1 999=A'):∀(bs:List Bf),eE bs=0->∀r∈(cX tx ls bs).2.2,r.Fit:=by
 intro bs;induction bs with
 |nil=>intro _ r hr;cases hr
 |cons b bs ih=>
  intro hb r hr;obtain⟨h1,h2⟩:=aY7 hb;have hk:=(qX (tx:=tx) hg bs).2.2;have hi:=ih h2;have e:cX tx ls (b::bs)=fL tx (cX tx ls bs) b:=rfl;rw[e]at hr;generalize cX tx ls bs=st at*;obtain⟨c,ls',rs⟩:=st;unfold fL at hr;simp only at hr hk hi;split at hr
  .exact hi r hr
  .rename_i hc
   have hc0:c=0:=by simpa using hc
   split at hr
   .cases hr
   .rcases List.mem_append.1 hr with h|h
    .exact hi r h
    .rw[List.mem_singleton.1 h];exact vF (.inr rfl) (hk hc0) ht h1
end Go.Proofs.YtpbbokalojdooaaGreat
