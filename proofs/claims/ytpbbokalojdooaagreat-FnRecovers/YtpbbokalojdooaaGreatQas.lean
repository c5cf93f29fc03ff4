import Derived.Test.YtpbbokalojdooaaGreatQar
namespace Go.Proofs.YtpbbokalojdooaaGreat
open Go.RowKit Ch Go.Proofs.Tryz
set_option linter.unusedSimpArgs false
set_option linter.unusedVariables false
set_option maxRecDepth 20000
set_option maxHeartbeats 8000000
open Value renaming int->I,slice->Z,bool->X,agg->U
open IntKind renaming i64->J
open Option renaming none->O,some->Y
open Obj renaming cells->M
open Ending renaming returned->R'
open Bool renaming true->A',false->F'
variable {h:Hold} {m r t:Int} {hs q qs:List Hold} {ls:List Lock} {rs:List Row} {l x:Lock} {b i k:Nat} {row:Option Nat} {S:Sl} {W w w':World}
namespace Ch
def Cv(hs:List Hold)(q:Hold):Prop:=aV hs q.t=A'/\q.m≠bQ hs q.t/\eB q.m (bQ hs q.t)=A'
def dF8(hs qs:List Hold):Prop:=∃a b,qs=a++b/\(∀x∈a,Cv hs x)/\(∀x∈b,aV hs x.t=F')
theorem aU7(a b:List Hold)(h:i<a.length):(a++b).getD i Hold.zero=a.getD i Hold.zero:=by simp[List.getD,List.getElem?_append_left h]
theorem aL3(a b:List Hold)(h:a.length<=i):(a++b).getD i Hold.zero=b.getD (i-a.length) Hold.zero:=by simp[List.getD,List.getElem?_append_right h]
theorem yU{l:List Hold}(h:i<l.length):l.getD i Hold.zero∈l:=by rw[List.getD_eq_getElem?_getD,List.getElem?_eq_getElem h];exact List.getElem_mem h
theorem bM5{l:List Hold}{x:Hold}(h:x∈l):∃i,i<l.length/\l.getD i Hold.zero=x:=by obtain⟨i,hi,e⟩:=List.getElem_of_mem h;exact⟨i,hi,by rw[List.getD_eq_getElem?_getD,List.getElem?_eq_getElem hi];exact e⟩
theorem dH0(h:qOk hs qs=A'):dF8 hs qs:=by
 have H:=lZ.1 h;have hle:=uJ hs qs;refine⟨qs.take (cY hs qs),qs.drop (cY hs qs),(List.take_append_drop _ _).symm,?_,?_⟩
 .intro x hx;obtain⟨i,hi,e⟩:=bM5 hx;simp at hi;have hi:i<cY hs qs/\i<qs.length:=by omega
  have e':qs.getD i Hold.zero=x:=by rw[<-e];simp[List.getD,hi.1]
  have hh:=sK hs qs hi.1;have hs':=H i hi.2;rw[e']at hh;refine⟨hh,?_,?_⟩
  .intro em;rw[aE5 (by rw[e'];exact hh) (by rw[e'];exact em)]at hs';cases hs'
  .cases hc:eB x.m (bQ hs x.t)
   .rw[aN7 (by rw[e'];exact hh) (by rw[e'];exact hc)]at hs';cases hs'
   .rfl
 .intro x hx;obtain⟨i,hi,e⟩:=bM5 hx;simp at hi;have e':qs.getD (cY hs qs+i) Hold.zero=x:=by rw[<-e];simp[List.getD]
  cases hh:aV hs x.t
  .rfl
  .have hs':=H (cY hs qs+i) (by omega);rw[vV (by rw[e'];exact hh) (by omega)]at hs';cases hs'
theorem cY6(h:dF8 hs qs):qOk hs qs=A':=by
 obtain⟨a,b,rfl,ha,hb⟩:=h;have hc:cY hs (a++b)=a.length:=by
  refine xY (by simp) (fun j hj=>?_) (fun hk=>?_)
  .rw[aU7 a b hj];exact(ha _ (yU hj)).1
  .rw[aL3 a b z'];refine hb _ (yU ?_);simp at hk;omega
 refine xB fun i hi=>?_;by_cases hl:i<a.length
 .have:=ha _ (yU hl);rw[<-aU7 a b hl]at this;exact aE4 (by omega) this.2.1 this.2.2
 .refine xC ?_;rw[aL3 a b (by omega)];refine hb _ (yU ?_);simp at hi;omega
structure Gx(l:Lock):Prop where
 hl:l.hs.length<=20
 ql:l.qs.length<=20
 hn:aZ l.hs=A'
 qn:aZ l.qs=A'
 h2:cP l.hs=F'
 q2:cP l.qs=F'
 fit:iQ l.hs=A'
 ord:dF8 l.hs l.qs
theorem Gx.gd(g:Gx l)(h:eC l.hs l.qs=F'):Gd l:=⟨g.hl,g.ql,g.hn,g.qn,g.h2,g.q2,g.fit,cY6 g.ord,h⟩
theorem gV{x:Hold}:x∈aI hs t↔x∈hs/\x.t≠t:=by simp[aI]
theorem nD(hs:List Hold)(t s:Int):aV (aI hs t) s=(aV hs s&&!(s==t)):=by
 rw[Bool.eq_iff_iff,dH];simp only[gV,Bool.and_eq_true,dH,Bool.not_eq_true',beq_eq_false_iff_ne];constructor
 .rintro⟨h,⟨h1,h2⟩,rfl⟩;exact⟨⟨h,h1,rfl⟩,h2⟩
 .rintro⟨⟨h,h1,rfl⟩,h2⟩;exact⟨h,⟨h1,h2⟩,rfl⟩
theorem bR5(hs:List Hold)(t:Int):aV (aI hs t) t=F':=by rw[nD];simp
theorem aW3(h:aV hs t=F'):bQ hs t=0:=by
 rcases eA hs t with⟨_,_,e⟩|⟨_,_,_,e,_⟩
 .exact e
 .rw[h]at e;cases e
theorem bE9(h2:cP hs=F'){s:Int}(hne:s≠t):bQ (aI hs t) s=bQ hs s:=by
 cases hh:aV hs s
 .rw[aW3 hh,aW3 (by rw[nD,hh];rfl)]
 .obtain⟨h,hm,rfl⟩:=dH.1 hh;rw[rR h2 hm,rR (iZ h2 t) (gV.2 ⟨hm,hne⟩)]
theorem Gx.without(g:Gd l)(t:Int):Gx ⟨l.r,aI l.hs t,aI l.qs t⟩:=by
 refine⟨Nat.le_trans (jR _ _) g.hl,Nat.le_trans (jR _ _) g.ql,mF g.hn t,mF g.qn t,iZ g.h2 t,iZ g.q2 t,?_,?_⟩
 .rw[xH];intro x hx y hy;exact xH.1 g.fit x (gV.1 hx).1 y (gV.1 hy).1
 .obtain⟨a,b,e,ha,hb⟩:=dH0 g.ord;refine⟨aI a t,aI b t,by rw[e];simp[aI],?_,?_⟩
  .intro x hx;obtain⟨hx,hne⟩:=gV.1 hx;obtain⟨h1,h2,h3⟩:=ha x hx;have em:=bE9 g.h2 hne;refine⟨?_,?_,?_⟩
   .simp only[nD,h1,Bool.true_and,Bool.not_eq_true',beq_eq_false_iff_ne];exact hne
   .simp only[em];exact h2
   .simp only[em];exact h3
  .intro x hx;obtain⟨hx,hne⟩:=gV.1 hx;simp only[nD,hb x hx,Bool.false_and]
theorem aR4(hf:eC hs (h::q)=A'):(aV hs h.t=A'\/hs.length<20)/\eJ hs h.t h.m=A':=by unfold eC at hf;simp only[Bool.and_eq_true,Bool.or_eq_true,decide_eq_true_eq]at hf;exact hf
theorem cG1(ht:cP (h::q)=F'):∀x∈q,h.t≠x.t:=by rw[fX,List.pairwise_cons]at ht;exact ht.1
theorem Gx.step(g:Gx ⟨r,hs,h::q⟩)(hf:eC hs (h::q)=A'):Gx ⟨r,iS hs h,q⟩:=by
 obtain⟨hl,ql,hn,qn,h2,q2,fit,ord⟩:=g;simp only at hl ql hn qn h2 q2 fit ord;obtain⟨hr,hfit⟩:=aR4 hf;have hnm:lU h=A':=lV.1 qn h (by simp);have hne:=cG1 q2;refine⟨?_,by simp at ql⊢;omega,kU hn hnm,lV.2 fun x hx=>lV.1 qn x (by simp[hx]),pX h2 h,cG2 q2,bO3 h2 fit hfit,?_⟩
 .simp only;cases hh:aV hs h.t
  .rw[aX1 hh];rcases hr with hr|hr
   .rw[hh]at hr;cases hr
   .omega
  .rw[aA8 hh];exact hl
 .have same:∀x∈q,aV (iS hs h) x.t=aV hs x.t/\bQ (iS hs h) x.t=bQ hs x.t:=by intro x hx;have hx':=hne x hx;refine⟨?_,aX2 h2 h (fun e=>hx' e.symm)⟩;rw[tN h2,show(h.t==x.t)=F' by rw[beq_eq_false_iff_ne];exact hx',Bool.or_false]
  obtain⟨a,b,e,ha,hb⟩:=ord;cases a with
  |nil=>simp only[List.nil_append]at e;refine⟨[],q,rfl,by simp,fun x hx=>?_⟩;simp only[(same x hx).1];exact hb x (by rw[<-e];simp[hx])
  |cons y a=>
   simp only[List.cons_append,List.cons.injEq]at e;obtain⟨rfl,e⟩:=e;refine⟨a,b,e,fun x hx=>?_,fun x hx=>?_⟩
   .have hq:x∈q:=by rw[e];simp[hx]
    obtain⟨c1,c2,c3⟩:=ha x (by simp[hx]);obtain⟨s1,s2⟩:=same x hq;exact⟨by simp only[s1];exact c1,by simp only[s2];exact c2,by simp only[s2];exact c3⟩
   .have hq:x∈q:=by rw[e];simp[hx]
    simp only[(same x hq).1];exact hb x hx
theorem cT4(g:Gx ⟨r,hs,qs⟩):Gd ⟨r,(dD hs qs).1,(dD hs qs).2.1⟩:=by
 induction qs generalizing hs with
 |nil=>exact g.gd rfl
 |cons h q ih=>
  cases hf:eC hs (h::q)
  .rw[wJ hf];exact g.gd hf
  .rw[tP hf];exact ih (g.step hf)
theorem dC6(g:Gd l)(t:Int):Gd (fQ l t):=cT4 (Gx.without g t)
theorem yD(hs qs:List Hold):∃a,qs=a++(dD hs qs).2.1/\(dD hs qs).2.2=a.map (·.t):=by
 induction qs generalizing hs with
 |nil=>exact⟨[],rfl,rfl⟩
 |cons h q ih=>
  cases hf:eC hs (h::q)
  .rw[wJ hf];exact⟨[],rfl,rfl⟩
  .rw[tP hf];obtain⟨a,e1,e2⟩:=ih (iS hs h);exact⟨h::a,by simp only[List.cons_append];rw[<-e1],by simp only[List.map_cons];rw[e2]⟩
theorem aH6(h2:cP hs=F')(v:Int):aV (dD hs qs).1 v=(aV hs v||(dD hs qs).2.2.contains v):=by
 induction qs generalizing hs with
 |nil=>simp[dD]
 |cons h q ih=>
  cases hf:eC hs (h::q)
  .rw[wJ hf];simp
  .rw[tP hf,ih (pX h2 h),tN h2];simp only[List.contains_cons];rw[Bool.or_assoc];congr 1;congr 1;rw[Bool.eq_iff_iff];simp only[beq_iff_eq];exact⟨fun e=>e.symm,fun e=>e.symm⟩
theorem bA1(l:Lock)(t:Int):∃a,aI l.qs t=a++(fQ l t).qs/\sD l t=a.map (·.t):=yD _ _
theorem cW0(l:Lock)(t:Int):((fQ l t).qs).Sublist l.qs:=by obtain⟨a,e,_⟩:=bA1 l t;have h1:(aI l.qs t).Sublist l.qs:=List.filter_sublist;rw[e]at h1;exact(List.sublist_append_right a _).trans h1
theorem dC8{v:Int}(q2:cP l.qs=F')(h:v∈sD l t):v≠t/\aV l.qs v=A'/\aV (fQ l t).qs v=F':=by
 obtain⟨a,e,eg⟩:=bA1 l t;rw[eg]at h;obtain⟨x,hx,rfl⟩:=List.mem_map.1 h;have hx':x∈aI l.qs t:=by rw[e];simp[hx]
 obtain⟨hm,hne⟩:=gV.1 hx';have hw:=iZ q2 t;rw[e,fX,List.pairwise_append]at hw;refine⟨hne,dH.2 ⟨x,hm,rfl⟩,mL.2 fun y hy ey=>hw.2.2 x hx y hy ey.symm⟩
theorem bS3(g:Gd l)(t:Int):aV (fQ l t).hs t=F'/\aV (fQ l t).qs t=F':=by
 constructor
 .unfold fQ;simp only;rw[aH6 (iZ g.h2 t),bR5,Bool.false_or];cases hc:(dD (aI l.hs t) (aI l.qs t)).2.2.contains t
  .rfl
  .rw[List.contains_iff_mem]at hc;exact absurd rfl (dC8 g.q2 hc).1
 .obtain⟨a,e,_⟩:=bA1 l t;refine mL.2 fun y hy ey=>?_;have:y∈aI l.qs t:=by rw[e];simp[hy]
  exact(gV.1 this).2 ey
end Ch
theorem cZ1{g:Nat}{t:TypeId}{u0 u1 u2 u3 u4 u5 u6 u7 u8 u9:Value}(h:W.heap[g]? =Y (M #[u0,u1,u2,u3,u4,u5,u6,u7,u8,u9] t (0,0))):
  W.cell? ⟨g,0,O⟩=Y u0/\W.cell? ⟨g,1,O⟩=Y u1/\W.cell? ⟨g,2,O⟩=Y u2/\W.cell? ⟨g,3,O⟩=Y u3/\W.cell? ⟨g,4,O⟩=Y u4/\W.cell? ⟨g,5,O⟩=Y u5/\W.cell? ⟨g,6,O⟩=Y u6/\W.cell? ⟨g,7,O⟩=Y u7/\W.cell? ⟨g,8,O⟩=Y u8/\W.cell? ⟨g,9,O⟩=Y u9/\∀i,W.frozen? ⟨g,i,O⟩=F':=
 ⟨cell_of_row _ _ _ _ _ _ h,cell_of_row _ _ _ _ _ _ h,cell_of_row _ _ _ _ _ _ h,cell_of_row _ _ _ _ _ _ h,cell_of_row _ _ _ _ _ _ h,cell_of_row _ _ _ _ _ _ h,cell_of_row _ _ _ _ _ _ h,cell_of_row _ _ _ _ _ _ h,cell_of_row _ _ _ _ _ _ h,cell_of_row _ _ _ _ _ _ h,fun i=>by simp[World.frozen?,h]⟩
theorem bO7(rs:List Row):∀u∈rcells rs,u.oneCell'=A':=by intro u hu;unfold rcells at hu;obtain⟨r,_,hr⟩:=List.mem_flatMap.1 hu;simp only[List.mem_cons,List.not_mem_nil,or_false]at hr;rcases hr with rfl|rfl|rfl<;>rfl
def NewS(rs:List Row)(w:World)(e:Ending)(w':World):Prop:=
 ∃a n c l m d,e=R' (U #[I J (iK rs).1,X F',I J 0,Z O 0 0,Z O 0 0,(Z a n c),(Z l m d),Z O 0 0,Z O 0 0,Z O 0 0,Z O 0 0,Z O 0 0,X F',Z O 0 0,Z O 0 0])/\n<=1048576/\CellsAt w' a (n*3) (rcells (iK rs).2.1)/\LvAt w' l m (iK rs).2.2/\Below w.heap.size w w'
theorem cX9(w:World):LvAt w O 0 []:=⟨rfl,[],⟨rfl,fun h=>by omega⟩,fun i hi=>by omega⟩
theorem NewS.code{c:Int}(h:iK rs=(c,[],[]))(hb:Below w.heap.size w w'):NewS rs w (R' (U #[I J c,X F',I J 0,Z O 0 0,Z O 0 0,Z O 0 0,Z O 0 0,Z O 0 0,Z O 0 0,Z O 0 0,Z O 0 0,Z O 0 0,X F',Z O 0 0,Z O 0 0])) w':=by unfold NewS;rw[h];exact⟨O,0,0,O,0,0,rfl,by omega,⟨rfl,fun h=>by omega⟩,cX9 _,hb⟩
theorem NewS.ok{ls:List (List Row)}{a l:Option Addr}{n c m d:Nat}(h:iK rs=(0,rs,ls))(hn:n<=1048576)(h3:CellsAt w' a (n*3) (rcells rs))(h4:LvAt w' l m ls)(h7:Below w.heap.size w w'):NewS rs w (R' (U #[I J 0,X F',I J 0,Z O 0 0,Z O 0 0,(Z a n c),(Z l m d),Z O 0 0,Z O 0 0,Z O 0 0,Z O 0 0,Z O 0 0,X F',Z O 0 0,Z O 0 0])) w':=by unfold NewS;rw[h];exact⟨a,n,c,l,m,d,rfl,hn,h3,h4,h7⟩
theorem bQ5(ad:Addr)(n cap:Nat)(rs:List Row)(w:World)(h:CellsAt w (Y ad) (n*3) (rcells rs))(hn:n<=1048576):
  Calls prog 68 #[Z (Y ad) n cap] w fun e w'=>NewS rs w e w':=by
 have kA:∀o,Below w.heap.size w (w.alloc o):=fun o=>u'.alloc z' o;have HL:=h.rlen;have IB:=fun W hW=>tB (Y ad) n cap rs W hW hn;obtain⟨c,HC⟩:∃c,Hid (dM rs=c):=⟨_,rfl⟩
 rw[HC.out]at IB;by_cases h0:c=0;rotate_left
 .have hc:(c !=0)=A':=by simpa using h0
  have HN:=hid (bM7 HC.out hc);clear HC h0 HL;go_enter func68,ntmps68
  go_wp2_with fail
  refine(IB _ (h.below (kA _))).mono ?_;rintro e w1⟨rfl,b1⟩;have hR:=aR b1 (heap_alloc_new w (M #[I J 0,X F',I J 0,Z O 0 0,Z O 0 0,Z O 0 0,Z O 0 0,Z O 0 0,Z O 0 0,Z O 0 0,Z O 0 0,Z O 0 0,X F',Z O 0 0,Z O 0 0] 112));have b1':=(kA _).trans (b1.mono (by simp));clear IB b1;go_wp2_with fail
  refine(cH1 c _).mono ?_;rintro e w2⟨rfl,b2⟩;have hR2:=aR b2 hR;have b2':=b1'.trans (b2.mono b1'.size);obtain⟨x0,x1,x2,x3,x4,x5,x6,x7,x8,x9,x10,x11,x12,x13,x14,hfz⟩:=iB hR2;clear hR hR2 b2 b1';go_wp2;refine bodyPost_ret (v:=U #[I J c,X F',I J 0,Z O 0 0,Z O 0 0,Z O 0 0,Z O 0 0,Z O 0 0,Z O 0 0,Z O 0 0,Z O 0 0,Z O 0 0,X F',Z O 0 0,Z O 0 0]) (by simp[results,Tryz.results68,go_sem,x0,x1,x2,x3,x4,x5,x6,x7,x8,x9,x10,x11,x12,x13,x14]) rfl (NewS.code HN.out ?_);refine b2'.grown (row:=Y w.heap.size) ?_ b2'.size (fun g hg=>by cases hg;exact z');repeat(first|with_reducible exact uO _ _|with_reducible refine cN ?_)
 subst h0;have hn4:n<=240:=by have:=(kY HC.out).2.1;have:=HL.out;omega
 obtain⟨i0,hi0,hz0,hz1,hz2⟩:=info_parts Tryz.info86;go_enter func68,ntmps68
 go_wp2_with fail
 refine(IB _ (h.below (kA _))).mono ?_;rintro e w1⟨rfl,b1⟩;have hR:=aR b1 (heap_alloc_new w (M #[I J 0,X F',I J 0,Z O 0 0,Z O 0 0,Z O 0 0,Z O 0 0,Z O 0 0,Z O 0 0,Z O 0 0,Z O 0 0,Z O 0 0,X F',Z O 0 0,Z O 0 0] 112));have b1':=(kA _).trans (b1.mono (by simp));have lR:=(Array.getElem?_eq_some_iff.1 hR).1;clear IB b1;have kE:=f' w1 (M #[] 86);have oE:(w1.alloc (M #[] 86)).ownsRow w1.heap.size 86 3 (Z (Y ⟨w1.heap.size,0,O⟩) 0 0) 0 []:=World.ownsRow_lit w1 #[] 0 z' (by unfold maxLen;omega) (by simp);have bE:=b1'.trans (kE.mono b1'.size);go_wp2_with(at_builtin;go_must (refine bK underlying24 underlying24 hi0 hz0 hz1 hz2 rfl (by omega) (by omega) (.tmp 12) (.tmp 13) ?_ ?_ w1.heap.size (Z (Y ⟨w1.heap.size,0,O⟩) 0 0) 0 [] (Y ad) n cap (rcells rs) ?_ ?_ oE (h.below bE) (bO7 _) (by omega) kE.size ?_;exact rfl;exact rfl;exact rfl;exact rfl;intro a2 c2 w2 ob gr2 at2))
 rw[Nat.zero_add,List.nil_append]at ob;have b2':=bE.grown gr2 bE.size (fun g hg=>by have:=(aG oE g hg).1;have:=b1'.size;omega);have hR2:=lQ gr2 (aR kE hR) (vU oE lR);have hbx:∀g,(Z a2 n c2).ownBlock=Y g->w1.heap.size<=g/\g<w2.heap.size:=fun g hg=>aG ob g hg;have kX:=f' w2 (M #[Z a2 n c2,Z O 0 0,Z O 0 0,Z O 0 0,Z O 0 0,Z O 0 0,Z O 0 0,X F',Z O 0 0,Z O 0 0] 68);have hX:=heap_alloc_new w2 (M #[Z a2 n c2,Z O 0 0,Z O 0 0,Z O 0 0,Z O 0 0,Z O 0 0,Z O 0 0,X F',Z O 0 0,Z O 0 0] 68);have hR3:=aR kX hR2;have ob3:=aF ob kX;have b3:=b2'.trans (kX.mono b2'.size);have l2:w1.heap.size<=w2.heap.size:=by have:=gr2.size;simp at this;omega
 clear oE kE bE gr2 at2 hR hR2 b2' ob kX;go_wp2_with fail
 go_loopw [5] (fun i wr=>∃(k m d:Nat) (l:Option Addr),k<=n/\i=I J k/\Hid (oD rs k)/\wr.heap[w2.heap.size]? =Y (M #[Z a2 n c2,Z l m d,Z O 0 0,Z O 0 0,Z O 0 0,Z O 0 0,Z O 0 0,X F',Z O 0 0,Z O 0 0] 68 (0,0))/\OwnLv wr (w2.heap.size+1) (Z l m d) m (gF rs k)/\wr.ownsRow w1.heap.size 86 3 (Z a2 n c2) n (rcells rs)/\wr.heap[w.heap.size]? =Y (M #[I J 0,X F',I J 0,Z O 0 0,Z O 0 0,Z O 0 0,Z O 0 0,Z O 0 0,Z O 0 0,Z O 0 0,Z O 0 0,Z O 0 0,X F',Z O 0 0,Z O 0 0] 112 (0,0))/\Below w.heap.size w wr) (fun i _=>n-(intOf i).toNat)
 case atStart=>exact⟨0,0,0,O,Nat.zero_le _,rfl,hid (bD2 rs),hX,(cY2 _ _).own,ob3,hR3,b3⟩
 case round=>
  clear hX ob3 hR3 b3;obtain⟨k,m,d,l,hk,rfl,HRM,hX,own,ob,hR,hB⟩:=hrel;have lR2:=(Array.getElem?_eq_some_iff.1 hR).1;have lX:=(Array.getElem?_eq_some_iff.1 hX).1;obtain⟨y0,y1,y2,y3,y4,y5,y6,y7,y8,y9,hyz⟩:=cZ1 hX;have HG:=hid (zL HC.out k (by have:=HL.out;omega) HRM.out);have hsz:aW (gF rs k)<=1048576:=by have:=nV HG.out;omega
  have hAt:LvAt wr l m (gF rs k):=own.at (fun i=>by have:=eZ hsz i;omega);by_cases hlt:k<n
  .have hkl:k<rs.length:=by have:=HL.out;omega
   have HMA:=hid (fun hl=>bB9 HC.out hkl hl);have HNX:=hid (fun hl=>bD1 HRM.out hl);have HPN:Hid (gF rs (k+1)=Ch.put (gF rs k) (rs.getD k Row.zero)):=rfl;have hPL:(gF rs (k+1)).length<=61:=bO5 HG.out;obtain⟨b,off,hao,hc0,hc1,hc2⟩:=(h.below hB).row hlt;have hbw:b<w.heap.size:=by obtain⟨b',off',hbo,hq,_⟩:=h.row hlt;rw[hao]at hbo;simp only[Option.some.injEq,Addr.mk.injEq,and_true]at hbo;rw[hbo.1];exact aD hq
   have hbl:=aD hc0;generalize rs.getD k Row.zero=r at*;obtain⟨rk,rv,rg⟩:=r;simp only at hc0 hc1 hc2;simp only[Option.some.injEq]at hao;subst hao;have IP:=vH l m d (gF rs k) rk rv rg wr.drew (show LvAt wr.drew l m _ from hAt) hsz HG.out;rw[<-HPN.out]at IP;clear HG hsz hAt own HPN;go_wp2_with fail
   refine R0 (fun W'=>W'.cell? ⟨b,off+k*3,O⟩=Y (I J rk)/\W'.cell? ⟨b,off+k*3+1,O⟩=Y (I J rv)/\W'.cell? ⟨b,off+k*3+2,O⟩=Y (X rg)) (⟨hc0,hc1,hc2⟩) (fun hH=>?_);refine R5 0 2 3 4 5 ?_;refine R6 1 (fun K hK=>?_);have ly1:wr.drew.cell? ⟨w2.heap.size,1,O⟩=Y (Z l m d):=y1;go_simp;refine hK.out _ _ hH (fun hH=>?_);clear hK K;refine R6 6 (fun K hK=>?_);go_simp;refine IP.mono ?_;rintro e w4⟨l4,m4,d4,rfl,own4,b4⟩;have hX4:=aR b4 (show wr.drew.heap[w2.heap.size]? =_ from hX);have hR4:=aR b4 (show wr.drew.heap[w.heap.size]? =_ from hR);have ob4:=aF (show wr.drew.ownsRow w1.heap.size 86 3 (Z a2 n c2) n (rcells rs)from ob) b4;have hB4:=hB.drew.trans (b4.mono hB.size);obtain⟨z0,z1,z2,z3,z4,z5,z6,z7,z8,z9,hgz⟩:=cZ1 hX4;have lX4:=(Array.getElem?_eq_some_iff.1 hX4).1;refine hK.out _ _ ⟨aC b4 hH.1,aC b4 hH.2.1,aC b4 hH.2.2⟩ (fun hH=>?_);clear hK K;refine R1 7 ?_;refine R6 8 (fun K hK=>?_);go_simp;refine hK.out _ _ ⟨(World.cell?_setCell_other _ _ _ _ (by first|(simp;done)|(simp;omega))).trans hH.1,(World.cell?_setCell_other _ _ _ _ (by first|(simp;done)|(simp;omega))).trans hH.2.1,(World.cell?_setCell_other _ _ _ _ (by first|(simp;done)|(simp;omega))).trans hH.2.2⟩ (fun hH=>?_);clear hK K;refine R7 ?_;have HLn:=own4.1;have own5:OwnLv (w4.setCell ⟨w2.heap.size,1,O⟩ (Z l4 m4 d4)) (w2.heap.size+1) (Z l4 m4 d4) m4 (gF rs (k+1)):=(own4.base (B':=w2.heap.size+1) (by simp;omega)).box (by omega) _;have ob5:=oA (p:=w2.heap.size) (o:=1) ob4 (fun g hg=>by have:=(hbx g hg).2;omega) (Z l4 m4 d4);have hX5:(w4.setCell ⟨w2.heap.size,1,O⟩ (Z l4 m4 d4)).heap[w2.heap.size]? =Y (M #[Z a2 n c2,Z l4 m4 d4,Z O 0 0,Z O 0 0,Z O 0 0,Z O 0 0,Z O 0 0,X F',Z O 0 0,Z O 0 0] 68 (0,0)):=by have:=Joins.block_setCell (i:=1) hX4 (Z l4 m4 d4);simpa using this
   have hR5:=(Below.heap_setCell w4 ⟨w2.heap.size,1,O⟩ (Z l4 m4 d4) w.heap.size (by show w.heap.size≠w2.heap.size;omega)).trans hR4;have b5:=hB4.setCell (p:=⟨w2.heap.size,1,O⟩) (by show w.heap.size<=w2.heap.size;omega) (Z l4 m4 d4);generalize w4.setCell ⟨w2.heap.size,1,O⟩ (Z l4 m4 d4)=w5 at*;have lX5:=(Array.getElem?_eq_some_iff.1 hX5).1;obtain⟨v0,v1,v2,v3,v4,v5,v6,v7,v8,v9,hvz⟩:=cZ1 hX5;by_cases hbig:60<(gF rs (k+1)).length
   .have HN:=hid (HMA.out hbig);have hm:(60:Int)<(m4:Int):=by omega
    clear HMA HNX;go_wp2_with fail
    refine(cH1 2 _).mono ?_;rintro e w6⟨rfl,b6⟩;have hR6:=aR b6 hR5;have b6':=b5.trans (b6.mono b5.size);obtain⟨x0,x1,x2,x3,x4,x5,x6,x7,x8,x9,x10,x11,x12,x13,x14,hfz⟩:=iB hR6;clear b6 hR5 hR6;go_wp2;refine bodyPost_ret (v:=U #[I J 2,X F',I J 0,Z O 0 0,Z O 0 0,Z O 0 0,Z O 0 0,Z O 0 0,Z O 0 0,Z O 0 0,Z O 0 0,Z O 0 0,X F',Z O 0 0,Z O 0 0]) (by simp[results,Tryz.results68,go_sem,x0,x1,x2,x3,x4,x5,x6,x7,x8,x9,x10,x11,x12,x13,x14]) rfl (NewS.code HN.out ?_);refine b6'.grown (row:=Y w.heap.size) ?_ b6'.size (fun g hg=>by cases hg;exact z');repeat(first|with_reducible exact uO _ _|with_reducible refine cN ?_)
   .have HN:=hid (HNX.out hbig);have hm:¬(60:Int)<(m4:Int):=by omega
    clear HMA HNX;go_wp2;go_roundw;case rel=>exact⟨k+1,m4,d4,l4,by omega,by go_num,HN,hX5,own5,ob5,hR5,b5⟩
    case measure=>simp[intOf];omega
  .obtain rfl:k=n:=by omega
   have HN:=hid (cA3 HC.out (by have:=HL.out;rw[<-this];exact HRM.out));rw[<-HL.out]at HN;have hOb:=aJ ob;obtain⟨x0,x1,x2,x3,x4,x5,x6,x7,x8,x9,x10,x11,x12,x13,x14,hfz⟩:=iB hR;clear HC HRM HG;go_wp2;refine bodyPost_ret (v:=U #[I J 0,X F',I J 0,Z O 0 0,Z O 0 0,(Z a2 k c2),(Z l m d),Z O 0 0,Z O 0 0,Z O 0 0,Z O 0 0,Z O 0 0,X F',Z O 0 0,Z O 0 0]) (by simp[results,Tryz.results68,go_sem,x0,x1,x2,x3,x4,x5,x6,x7,x8,x9,x10,x11,x12,x13,x14]) rfl (NewS.ok HN.out (by omega) ?_ ?_ ?_)
   .refine aJ (base:=w1.heap.size) (cap:=c2) (e:=86) (size:=3) ?_;refine aK (row:=Y w.heap.size) ob ?_ (fun g hg e=>by have:=(hbx g hg).1;cases e;omega);repeat(first|with_reducible exact uO _ _|with_reducible refine cN ?_)
   .refine OwnLv.at (B:=w2.heap.size+1) (cap:=d) ?_ (fun i=>by have:=eZ hsz i;omega);obtain⟨vs,oV⟩:=own.told;have hlf:=oV.lt;have hll:=fun g hg=>aG oV.2.1 g hg;refine(oV.grownN (row:=Y w.heap.size) ?_ (fun g hg e=>by have:=(hll g hg).1;cases e;omega) (fun i x g hx hg e=>by have:=(hlf i x g hx hg).1;cases e;omega)).own;repeat(first|with_reducible exact uO _ _|with_reducible refine cN ?_)
   .refine hB.grown (row:=Y w.heap.size) ?_ hB.size (fun g hg=>by cases hg;exact z');repeat(first|with_reducible exact uO _ _|with_reducible refine cN ?_)
section
open Go.Maps
theorem aI1(xt xm yt ym:Int)(W:World):Calls prog 196 #[U #[I J xt,I J xm],U #[I J yt,I J ym]] W fun e w'=>e=R' (X (Ch.ltE ⟨xt,xm⟩ ⟨yt,ym⟩))/\Below W.heap.size W w':=by
 have kb:Below W.heap.size W ((W.alloc (M #[I J xt,I J xm] 265)).alloc (M #[I J yt,I J ym] 265)):=(q').alloc (by simp) _;by_cases h1:xt=yt
 .have e1:(xt !=yt)=F':=by simpa using h1
  have HE:Hid (Ch.ltE ⟨xt,xm⟩ ⟨yt,ym⟩=decide (xm<ym)):=by
   show _=_;unfold Ch.ltE;have:¬xt<yt:=by omega
   simp[h1]
  clear h1;go_enter func196,ntmps196
  go_wp2;go_ret;exact⟨by rw[HE.out];(try simp),kb⟩
 .have e1:(xt !=yt)=A':=by simpa using h1
  have HE:Hid (Ch.ltE ⟨xt,xm⟩ ⟨yt,ym⟩=decide (xt<yt)):=by show _=_;unfold Ch.ltE;simp[h1]
  clear h1;go_enter func196,ntmps196
  go_wp2;go_ret;exact⟨by rw[HE.out];(try simp),kb⟩
theorem cC0(a:Option Addr)(n cap:Nat)(ps:List Hold)(w:World)(h:CellsAt w a (n*2) (hcells ps))(hn:n<=1048576):
  Calls prog 176 #[Z a n cap] w fun e w'=>e=R' (I J (fZ ps))/\Below w.heap.size w w':=by
 have HL:=h.hlen;by_cases hbig:240<n
 .have HF:Hid (fZ ps=2):=bK6 (by have:=HL.out;omega);go_enter func176,ntmps176
  go_wp2;go_ret;exact⟨cK HF.out.symm,u'⟩
 have hn4:n<=240:=by omega
 have hpl:ps.length<=240:=by have:=HL.out;omega
 clear hbig;go_enter func176,ntmps176
 go_wp2;go_loopw [3] (fun i wr=>∃k:Nat,k<=n/\i=I J k/\Hid (kK ps 0=kK ps k)/\Below w.heap.size w wr) (fun i _=>n-(intOf i).toNat)
 case atStart=>exact⟨0,Nat.zero_le _,rfl,hid rfl,u'⟩
 case round=>
  obtain⟨k,hk,rfl,HH,hB⟩:=hrel;by_cases hlt:k<n
  .have hkl:k<ps.length:=by have:=HL.out;omega
   have HS:=hid (fun c (he:tR ps k=c) (hc:(c !=0)=A')=>cS5 hpl (HH.out.trans ((dF3 hkl (by rw[he];exact hc)).trans he)) hc);have HN:=hid (fun(he:tR ps k=0)=>HH.out.trans (dF4 hkl (by rw[he];rfl)));have HRG:=hid (fun hr=>bF5 (ps:=ps) (k:=k) hr);have HFM:=hid (fun hr h0 hl=>bS5 (ps:=ps) (k:=k) hr h0 hl);have HF0:=hid (fun hr h0=>bF4 (ps:=ps) (k:=k) hr h0);have HFN:=hid (fun hr hl=>bS4 (ps:=ps) (k:=k) hr hl);obtain⟨g,off,hao,q0,q1⟩:=(h.below hB).hold hlt;have HP:=hid (fun(h0:0<k)=>(h.below hB).hold (k:=k-1) (by omega));have hbl:=aD q0;generalize ps.getD (k-1) Hold.zero=pr at*;obtain⟨pt,pm⟩:=pr;generalize ps.getD k Hold.zero=r at*;obtain⟨rt,rm⟩:=r;subst hao;simp only at q0 q1 HRG HFM HF0 HFN HP;have IM:=fun W=>bM rt W;have IT:=fun W=>cQ rm W;cases hm:inB rt 0 9999
   .rw[hm]at IM;replace HS:=hid (HS.out 3 (HRG.out (by rw[hm];rfl)) rfl);clear HN HRG HFM HF0 HFN IT HP;go_wp2_with fail
    refine(IM _).mono ?_;rintro e w'⟨rfl,rfl⟩;go_wp2;go_ret;exact⟨cK HS.out.symm,hB⟩
   rw[hm]at IM;cases ht:inB rm 0 99
   .rw[ht]at IT;replace HS:=hid (HS.out 3 (HRG.out (by rw[hm,ht];rfl)) rfl);clear HN HRG HFM HF0 HFN HP;go_wp2_with fail
    refine(IM _).mono ?_;rintro e w'⟨rfl,rfl⟩;go_wp2_with fail
    refine(IT _).mono ?_;rintro e w'⟨rfl,rfl⟩;go_wp2;go_ret;exact⟨cK HS.out.symm,hB⟩
   rw[ht]at IT;have hr:(!inB rt 0 9999||!inB rm 0 99)=F':=by rw[hm,ht];rfl
   clear HRG;by_cases h0:0<k;rotate_left
   .have hk0:k=0:=by omega
    have HX:=hid (HF0.out hr hk0);replace HN:=hid (HN.out HX.out);subst hk0;have hd0:decide ((0:Int)<((0:Nat):Int))=F':=by simp
    simp only[Nat.zero_mul,Nat.add_zero]at q0 q1;clear HS HFM HF0 HFN HP hr hm ht;go_wp2_with fail
    refine(IM _).mono ?_;rintro e w'⟨rfl,rfl⟩;go_wp2_with fail
    refine(IT _).mono ?_;rintro e w'⟨rfl,rfl⟩;clear IM IT;go_wp2_with fail
    refine R0 (fun W'=>Below w.heap.size w W') (hB.drew) (fun hH=>?_);refine R8 0 (h:=R8 1 (h:=R8 2 (h:=R9 3 (h:=R9 4 (h:=J3 ?_)))));refine R9 5 (h:=R9 6 (h:=R9 7 (h:=R9 8 (h:=R9 9 (h:=J3 ?_)))));refine R9 10 (h:=R9 11 (h:=R9 12 (h:=R9 13 (h:=R8 14 (h:=J3 ?_)))));refine R7 ?_;have hB2:=hH;clear hH;go_wp2;go_roundw;case rel=>exact⟨0+1,by omega,by go_num,HN,hB2⟩
    case measure=>simp[intOf];omega
   obtain⟨g',off',hg',u0,u1⟩:=HP.out h0;cases hg';have IC:=fun W=>aI1 pt pm rt rm W;obtain⟨i,hki⟩:∃i,Hid (k-1=i):=⟨_,rfl⟩
   rw[hki.out]at u0 u1;have hd0:(0:Int)<(k:Int):=by omega
   have hk1:i<n:=by have:=hki.out;omega
   have hwi:IntKind.i64.wrap ((k:Int)-1)=(i:Int):=by rw[IntWalk.i64_in _ ⟨by omega,by omega⟩];have:=hki.out;omega
   clear HP HF0;cases hl:Ch.ltE ⟨pt,pm⟩ ⟨rt,rm⟩
   .rw[hl]at IC;replace HS:=hid (HS.out 1 (HFM.out hr h0 hl) rfl);clear HN HFM HFN hr hm ht hl;go_wp2_with fail
    refine(IM _).mono ?_;rintro e w'⟨rfl,rfl⟩;go_wp2_with fail
    refine(IT _).mono ?_;rintro e w'⟨rfl,rfl⟩;clear IM IT;go_wp2_with fail
    refine R0 (fun W'=>W'.cell? ⟨g,off+i*2,O⟩=Y (I J pt)/\W'.cell? ⟨g,off+i*2+1,O⟩=Y (I J pm)/\W'.cell? ⟨g,off+k*2,O⟩=Y (I J rt)/\W'.cell? ⟨g,off+k*2+1,O⟩=Y (I J rm)/\Below w.heap.size w W') (⟨u0,u1,q0,q1,hB.drew⟩) (fun hH=>?_);refine R5 0 1 2 3 4 ?_;refine R5 5 6 7 8 9 ?_;refine R2 10 11 ?_;refine R6 12 (fun K hK=>?_);go_simp;refine(IC _).mono ?_;rintro e w9⟨rfl,b9⟩;refine hK.out _ _ ?_ (fun hH=>?_)
    .exact⟨aC b9 hH.1,aC b9 hH.2.1,aC b9 hH.2.2.1,aC b9 hH.2.2.2.1,hH.2.2.2.2.trans (b9.mono hH.2.2.2.2.size)⟩
    clear hK K;refine R2 13 14 ?_;refine R7 ?_;have hB2:=hH.2.2.2.2;clear hH;go_wp2;go_ret;exact⟨cK HS.out.symm,hB2⟩
   .rw[hl]at IC;have HX:=hid (HFN.out hr hl);replace HN:=hid (HN.out HX.out);clear HS HFM HFN hr hm ht hl;go_wp2_with fail
    refine(IM _).mono ?_;rintro e w'⟨rfl,rfl⟩;go_wp2_with fail
    refine(IT _).mono ?_;rintro e w'⟨rfl,rfl⟩;clear IM IT;go_wp2_with fail
    refine R0 (fun W'=>W'.cell? ⟨g,off+i*2,O⟩=Y (I J pt)/\W'.cell? ⟨g,off+i*2+1,O⟩=Y (I J pm)/\W'.cell? ⟨g,off+k*2,O⟩=Y (I J rt)/\W'.cell? ⟨g,off+k*2+1,O⟩=Y (I J rm)/\Below w.heap.size w W') (⟨u0,u1,q0,q1,hB.drew⟩) (fun hH=>?_);refine R5 0 1 2 3 4 ?_;refine R5 5 6 7 8 9 ?_;refine R2 10 11 ?_;refine R6 12 (fun K hK=>?_);go_simp;refine(IC _).mono ?_;rintro e w9⟨rfl,b9⟩;refine hK.out _ _ ?_ (fun hH=>?_)
    .exact⟨aC b9 hH.1,aC b9 hH.2.1,aC b9 hH.2.2.1,aC b9 hH.2.2.2.1,hH.2.2.2.2.trans (b9.mono hH.2.2.2.2.size)⟩
    clear hK K;refine R2 13 14 ?_;refine R7 ?_;have hB2:=hH.2.2.2.2;clear hH;go_wp2;go_roundw;case rel=>exact⟨k+1,by omega,by go_num,HN,hB2⟩
    case measure=>simp[intOf];omega
  .obtain rfl:k=n:=by omega
   have HZ:=hid (HH.out.trans (dA8 (by have:=HL.out;omega)));have HT:=hid (fun hd=>cI6 hpl HZ.out hd);have HO:=hid (fun hd=>cS6 hpl HZ.out hd);clear HH HZ;generalize wr=wq at*;go_wp2;go_loopw [4] (fun i wr=>∃k':Nat,k'<=k/\i=I J k'/\Hid ((mX (ps.take k')).Nodup)/\Below w.heap.size w wr) (fun i _=>k-(intOf i).toNat)
   case atStart=>exact⟨0,Nat.zero_le _,rfl,hid (by simp[mX]),hB⟩
   case round=>
    clear hB;obtain⟨i,hi,rfl,HD,hB⟩:=hrel;generalize wr=wp at*;by_cases hil:i<k
    .have hip:i<ps.length:=by have:=HL.out;omega
     have HDN:=hid (fun hne=>bF8 hip HD.out hne);have HTF:=hid (fun j (hj:j<i) he=>HT.out (bS2 hj hip he));clear HD;go_wp2;go_loopw [5] (fun q wr=>∃j:Nat,j<=i/\q=I J j/\Hid (∀j',j'<j->(ps.getD j' Hold.zero).m≠(ps.getD i Hold.zero).m)/\Below w.heap.size w wr) (fun q _=>i-(intOf q).toNat)
     case atStart=>exact⟨0,Nat.zero_le _,rfl,hid (fun j' hj'=>by omega),hB⟩
     case round=>
      clear hB;obtain⟨j,hj,rfl,HA,hB⟩:=hrel;by_cases hjl:j<i
      .replace HTF:=hid (HTF.out j hjl);have HAN:=hid (fun hne=>fun j' (hj':j'<j+1)=>(if he:j'=j then by rw[he];exact hne else HA.out j' (by omega):(ps.getD j' Hold.zero).m≠(ps.getD i Hold.zero).m));clear HA;obtain⟨g,off,hao,q0,q1⟩:=(h.below hB).hold hil;obtain⟨g',off',hao',p0,p1⟩:=(h.below hB).hold (k:=j) (by omega);subst hao;cases hao';have hbl:=aD q0;have hjn:j<k:=by omega
       generalize hri:ps.getD i Hold.zero=r at*;generalize hrj:ps.getD j Hold.zero=rj at*;obtain⟨rt,rm⟩:=r;obtain⟨pt,pm⟩:=rj;simp only at q0 q1 p0 p1 HTF HAN;by_cases hm:pm=rm
       .have e1:(pm==rm)=A':=by simpa using hm
        replace HTF:=hid (HTF.out hm);clear HAN HDN hm hri hrj HO;go_wp2;refine R0 (fun W'=>W'.cell? ⟨g,off+j*2+1,O⟩=Y (I J pm)/\W'.cell? ⟨g,off+i*2+1,O⟩=Y (I J rm)/\Below w.heap.size w W') (⟨p1,q1,hB.drew⟩) (fun hH=>?_);refine R5 0 1 2 3 4 ?_;refine R5 5 6 7 8 9 ?_;refine R1 10 ?_;refine R7 ?_;have hB2:=hH.2.2;clear hH;go_wp2;go_ret;exact⟨cK HTF.out.symm,hB2⟩
       .have e1:(pm==rm)=F':=by simpa using hm
        replace HAN:=hid (HAN.out hm);clear HTF HDN hm hri hrj HO;go_wp2;refine R0 (fun W'=>W'.cell? ⟨g,off+j*2+1,O⟩=Y (I J pm)/\W'.cell? ⟨g,off+i*2+1,O⟩=Y (I J rm)/\Below w.heap.size w W') (⟨p1,q1,hB.drew⟩) (fun hH=>?_);refine R5 0 1 2 3 4 ?_;refine R5 5 6 7 8 9 ?_;refine R1 10 ?_;refine R7 ?_;have hB2:=hH.2.2;clear hH;go_wp2;go_roundw;case rel=>exact⟨j+1,by omega,by go_num,HAN,hB2⟩
        case measure=>simp[intOf];omega
      .obtain rfl:j=i:=by omega
       replace HDN:=hid (HDN.out HA.out);clear HA HTF;go_wp2;go_roundw;case rel=>exact⟨j+1,by omega,by go_num,HDN,hB⟩
       case measure=>simp[intOf];omega
    .obtain rfl:i=k:=by omega
     have HX:=hid (HO.out (bT1 (by have:=HL.out;omega) HD.out));go_wp2;go_ret;exact⟨cK HX.out.symm,hB⟩
end
theorem bZ3(a:Option Addr)(n cap:Nat)(v:Int)(ps:List Hold)(w:World)(h:CellsAt w a (n*2) (hcells ps))(hn:n<=1048576):
  Calls prog 210 #[Z a n cap,I J v] w fun e w'=>∃a' m c',e=R' (Z a' m c')/\m<=1048576/\w'.ownsRow w.heap.size 2 1 (Z a' m c') m (icells (qS ps v))/\Below w.heap.size w w':=by
 have HL:=h.hlen;obtain⟨i0,hi0,hz0,hz1,hz2⟩:=info_parts Tryz.info2;have oE:=lW w w.heap.size 2 1 z';have kE:=f' w (M #[] 2);go_enter func210,ntmps210
 go_wp2;go_loopw [5,6] (fun q i wr=>∃(k m:Nat) (a':Option Addr) (c':Nat),k<=n/\m<=k/\i=I J k/\q=Z a' m c'/\wr.ownsRow w.heap.size 2 1 (Z a' m c') m (icells (qS (ps.take k) v))/\Below w.heap.size w wr) (fun _ i _=>n-(intOf i).toNat)
 case atStart=>exact⟨0,0,_,_,Nat.zero_le _,z',rfl,rfl,oE,kE⟩
 case round=>
  clear oE kE;obtain⟨k,m,a',c',hk,hmk,rfl,rfl,own,hB⟩:=hrel;by_cases hlt:k<n
  .have hkl:k<ps.length:=by have:=HL.out;omega
   have HY:=hid (fun he=>bS8 (v:=v) hkl he);have HN:=hid (fun he=>cI9 (v:=v) hkl he);obtain⟨b,off,rfl,q0,q1⟩:=(h.below hB).hold hlt;have hbl:=aD q0;generalize ps.getD k Hold.zero=r at*;obtain⟨rt,rm⟩:=r;simp only at q0 q1 HY HN;generalize qS (ps.take k) v=zs at*;have hsum:m+1<=4194304:=by omega
   by_cases hh:rt=v;rotate_left
   .have e1:(rt==v)=F':=by simpa using hh
    go_wp2;go_roundw;case rel=>exact⟨k+1,m,a',c',by omega,by omega,by go_num,rfl,by rw[HN.out e1];exact own,hB⟩
    case measure=>simp[intOf];omega
   .have e1:(rt==v)=A':=by simpa using hh
    replace HY:=hid (HY.out e1);clear HN hh;have kQ:=f' wr (M #[I J rm] 2);have own3:=aF own kQ;have hC3:=jP wr rm 2;have hb3:w.heap.size<=(wr.alloc (M #[I J rm] 2)).heap.size:=by have:=hB.size;simp;omega
    have b3:=hB.trans (kQ.mono hB.size);go_wp2_with(at_builtin;go_must (refine bK underlying27 underlying27 hi0 hz0 hz1 hz2 rfl (by omega) (by omega) (.tmp 21) (.tmp 27) ?_ ?_ w.heap.size (Z a' m c') m (icells zs) _ 1 1 (icells [rm]) ?_ ?_ own3 hC3 (dN [rm]) hsum hb3 ?_;exact rfl;exact rfl;exact rfl;exact rfl;intro a5 c5 w5 own5 gr5 at5;go_frame))
    go_roundw;case rel=>rw[<-eI,<-HY.out]at own5;exact⟨k+1,m+1,a5,c5,by omega,by omega,by go_num,rfl,own5,b3.grown gr5 b3.size (fun g hg=>(aG own3 g hg).1)⟩
    case measure=>simp[intOf];omega
  .obtain rfl:k=n:=by omega
   have HWF:Hid (ps.take k=ps):=by have:=HL.out;show _=_;rw[this];exact List.take_length
   rw[HWF.out]at own;go_wp2;go_ret;exact⟨a',m,c',rfl,by omega,own,hB⟩
theorem aP7(h:x∈bO r ls):x∈ls\/x=⟨r,[],[]⟩:=by
 unfold bO at h;split at h
 .exact .inl h
 .simp only[List.mem_append,List.mem_singleton]at h;rcases h with(h|h)|h
  .exact .inl (List.mem_of_mem_take h)
  .exact .inr h
  .exact .inl (List.mem_of_mem_drop h)
theorem qH(h:i<ls.length):aH ls i∈ls:=by unfold aH;rw[List.getD_eq_getElem?_getD,List.getElem?_eq_getElem h];exact List.getElem_mem h
theorem uC(h:x∈ls):∃i,i<ls.length/\aH ls i=x:=by obtain⟨i,hi,rfl⟩:=List.mem_iff_getElem.1 h;refine⟨i,hi,?_⟩;unfold aH;rw[List.getD_eq_getElem?_getD,List.getElem?_eq_getElem hi];rfl
theorem qO(h:aS ls=0)(hx:x∈ls):dF x=0:=by obtain⟨i,hi,rfl⟩:=uC hx;exact(iI ((eL h).1 i hi)).2.2.2
theorem aP6(h:aS ls=0)(r:Int):(aH (bO r ls) (aX r ls)).hs.length<=20/\(aH (bO r ls) (aX r ls)).qs.length<=20/\aZ (aH (bO r ls) (aX r ls)).hs=A'/\aZ (aH (bO r ls) (aX r ls)).qs=A':=by
 rcases aP7 (qH (qF r ls).1)with hx|hx
 .have:=fN (qO h hx);exact⟨this.1,this.2.1,this.2.2.1,this.2.2.2.1⟩
 .rw[hx];exact⟨by simp,by simp,rfl,rfl⟩
theorem qM(h:inB m 1 5=A'):eB 0 m=F':=by
 simp only[inB,Bool.and_eq_true,decide_eq_true_eq]at h;obtain rfl|rfl|rfl|rfl|rfl:m=1\/m=2\/m=3\/m=4\/m=5:=by omega
 all_goals rfl
theorem bA8(h:inB m 1 5=A'):eN 0 m=m:=by
 simp only[inB,Bool.and_eq_true,decide_eq_true_eq]at h;obtain rfl|rfl|rfl|rfl|rfl:m=1\/m=2\/m=3\/m=4\/m=5:=by omega
 all_goals rfl
theorem aL7(h:inB m 1 5=A'):Ch.isM m=A':=by simp only[Ch.isM,inB,Bool.and_eq_true,decide_eq_true_eq]at h⊢;omega
theorem bO4(hs:List Hold)(h:Hold):0<(iS hs h).length:=by
 unfold iS;split
 .next hh=>
  rw[List.length_set];cases hs with
  |nil=>simp[aV]at hh
  |cons=>simp
 .simp
theorem wR(h0:(dP l k h).2.1=0):0<(dP l k h).2.2.hs.length+(dP l k h).2.2.qs.length:=by
 unfold dP at h0⊢;split
 .next hh=>rw[if_pos hh]at h0;simp at h0
 .simp;omega
theorem wQ(l:Lock)(k:Nat)(h:Hold)(hk:k<=l.qs.length):(dP l k h).2.2.hs.length+(dP l k h).2.2.qs.length<=l.hs.length+l.qs.length+1:=by
 unfold dP;split
 .simp only;omega
 .simp;omega
theorem bS0(hm:inB m 1 5=A')(h0:(cO l t m).2.1=0):0<(cO l t m).2.2.hs.length+(cO l t m).2.2.qs.length:=by
 unfold cO at h0⊢;split
 .next hc=>
  simp only;rcases Nat.eq_zero_or_pos l.hs.length with h|h
  .have:l.hs=[]:=List.length_eq_zero_iff.1 h;rw[this,show bQ [] t=0 from rfl,qM hm]at hc;cases hc
  .omega
 .next hc=>
  rw[if_neg hc]at h0;split
  .next h1=>rw[if_pos h1]at h0;exact wR h0
  .next h1=>
   rw[if_neg h1]at h0;split
   .next h2=>rw[if_pos h2]at h0;exact wR h0
   .next h2=>
    rw[if_neg h2]at h0;split
    .next h3=>rw[if_pos h3]at h0;simp at h0
    .simp only;have:=bO4 l.hs ⟨t,eN (bQ l.hs t) m⟩;omega
theorem aY4(l:Lock)(t m:Int):(cO l t m).2.2.hs.length+(cO l t m).2.2.qs.length<=l.hs.length+l.qs.length+1:=by
 unfold cO;split
 .simp only;omega
 .split
  .exact wQ _ _ _ z'
  .split
   .exact wQ _ _ _ (uJ _ _)
   .split
    .simp only;omega
    .simp only;have:=nC l.hs ⟨t,eN (bQ l.hs t) m⟩;omega
theorem zY(hi:i<(bO r ls).length)(hn:i≠aX r ls):aH (bO r ls) i∈ls:=by
 unfold bO at hi⊢;split
 .next h=>rw[if_pos h]at hi;exact qH hi
 .next h=>
  rw[if_neg h]at hi;have hp:=wZ r ls;rw[wW _ _ _ _ hp];have hl:i<ls.length+1:=by simp at hi;omega
  split
  .next h1=>exact qH (by omega)
  .next h1=>exact qH (by omega)
def gQ(ls:List Lock)(t r m:Int):List Lock:=(bO r ls).set (aX r ls) (lA ls t r m).2.2
theorem aY3(h:x∈gQ ls t r m):x∈ls\/x=(lA ls t r m).2.2:=by
 obtain⟨i,hi,rfl⟩:=uC h;unfold gQ at hi⊢;rw[sS _ _ _ _ (qF r ls).1];split
 .exact .inr rfl
 .next hn=>exact .inl (zY (by simpa using hi) (fun e=>hn e.symm))
theorem bH3(hg:aS ls=0)(t r m:Int):dC (gQ ls t r m)<=5000:=by
 have h1:∀x∈gQ ls t r m,x.hs.length+x.qs.length<=41:=by
  intro x hx;rcases aY3 hx with h|h
  .have:=fN (qO hg h);omega
  .rw[h];have h2:=aY4 (aH (bO r ls) (aX r ls)) t m;have h3:=aP6 hg r;unfold lA;omega
 have h2:=xF h1;have h3:=mK hg;have h4:=(qF r ls).2;have h5:(gQ ls t r m).length=(bO r ls).length:=by unfold gQ;simp
 rw[h5]at h2;have:(41+1)*(bO r ls).length<=(41+1)*102:=Nat.mul_le_mul_left _ (by omega);omega
def vX(S:Sl):List Value:=(List.range 100).flatMap (fun i:Nat=>[X (S i).isSome,I J ((S i).getD 0)])
def slA(S:Sl):Array Value:=(vX S).toArray
theorem aW9(f:Nat->List Value)(hf:∀i,(f i).length=2):∀m,((List.range m).flatMap f).length=2*m:=by
 intro m;induction m with
 |zero=>rfl
 |succ m ih=>rw[List.range_succ,List.flatMap_append,List.length_append,ih];simp[hf];omega
theorem cY3(f:Nat->List Value)(hf:∀i,(f i).length=2):∀m i j,i<m->j<2->((List.range m).flatMap f)[2*i+j]? =(f i)[j]? :=by
 intro m;induction m with
 |zero=>intro i j h;omega
 |succ m ih=>
  intro i j hi hj;rw[List.range_succ,List.flatMap_append];have hl:=aW9 f hf m;by_cases e:i<m
  .rw[List.getElem?_append_left (by rw[hl];omega),ih i j e hj]
  .obtain rfl:i=m:=by omega
   rw[List.getElem?_append_right (by rw[hl];omega),hl];simp[show 2*i+j-2*i=j by omega]
theorem vG(S:Sl):(vX S).length=200:=aW9 _ (fun _=>rfl) 100
theorem tA(S:Sl){j:Nat}(hi:i<100)(hj:j<2):(vX S)[2*i+j]? =[X (S i).isSome,I J ((S i).getD 0)][j]? :=cY3 _ (fun _=>rfl) 100 i j hi hj
theorem bQ3(S:Sl)(hk:k<100)(o:Option Int):((vX S).set (2*k) (X o.isSome)).set (2*k+1) (I J (o.getD 0))=vX (S.set k o):=by
 apply List.ext_getElem?;intro q;by_cases hq:q<200
 .have hi:q / 2<100:=by omega
  have hj:q%2<2:=by omega
  have e:q=2*(q / 2)+q%2:=by omega
  have h1:=tA S hi hj;have h2:=tA (S.set k o) hi hj;rw[<-e]at h1 h2;rw[h2,List.getElem?_set,List.getElem?_set,List.length_set,vG];have hm:q%2=0\/q%2=1:=by omega
  by_cases hqk:q / 2=k
  .rcases hm with hm|hm
   .rw[if_neg (by omega),if_pos (by omega),if_pos (by omega),hm,hqk];simp[Sl.set]
   .rw[if_pos (by omega),if_pos (by omega),hm,hqk];simp[Sl.set]
  .rw[if_neg (by omega),if_neg (by omega),h1];have:(S.set k o) ((q / 2:Nat):Int)=S ((q / 2:Nat):Int):=by simp only[Sl.set];rw[if_neg (by omega)]
   rw[this]
 .rw[List.getElem?_eq_none (by simp[vG];omega),List.getElem?_eq_none (by rw[vG];omega)]
def Slt(w:World)(b:Nat)(S:Sl):Prop:=w.heap[b]? =Y (M (slA S) 131 (0,0))
theorem Slt.lt(h:Slt w b S):b<w.heap.size:=(Array.getElem?_eq_some_iff.1 h).1
theorem Slt.cell(h:Slt w b S)(hi:i<100):w.cell? ⟨b,2*i,O⟩=Y (X (S i).isSome)/\w.cell? ⟨b,2*i+1,O⟩=Y (I J ((S i).getD 0)):=by
 have h0:=tA S hi (by omega:0<2);have h1:=tA S hi (by omega:1<2);have key:∀j,w.cell? ⟨b,j,O⟩=(vX S)[j]? :=fun j=>by unfold World.cell?;unfold Slt at h;simp only[h];simp[slA]
 rw[key,key];exact⟨h0,h1⟩
theorem Slt.frozen(h:Slt w b S)(i:Nat):w.frozen? ⟨b,i,O⟩=F':=by unfold Slt at h;simp[World.frozen?,h]
theorem Slt.put(h:Slt w b S)(hk:k<100)(o:Option Int):Slt ((w.setCell ⟨b,2*k,O⟩ (X o.isSome)).setCell ⟨b,2*k+1,O⟩ (I J (o.getD 0))) b (S.set k o):=by have h1:=Joins.block_setCell (i:=2*k) h (X o.isSome);have h2:=Joins.block_setCell (i:=2*k+1) h1 (I J (o.getD 0));unfold Slt;rw[h2];congr 2;rw[slA,slA,<-bQ3 S hk o];simp
theorem Slt.keep(h:Slt w b S)(hg:w.grownBy w' row)(hne:row≠Y b):Slt w' b S:=iU hg h hne
theorem Slt.below(h:Slt w b S)(hb:Below w.heap.size w w'):Slt w' b S:=aT hb h
theorem Slt.alloc(h:Slt w b S)(o:Obj):Slt (w.alloc o) b S:=h.below (q')
end Go.Proofs.YtpbbokalojdooaaGreat
