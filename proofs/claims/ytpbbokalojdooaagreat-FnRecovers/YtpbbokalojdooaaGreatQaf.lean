import Derived.Test.YtpbbokalojdooaaGreatQad
import Derived.Test.YtpbbokalojdooaaGreatQae
namespace Go.Proofs.YtpbbokalojdooaaGreat
open Go.RowKit Ch Go.Proofs.Tryz
set_option linter.unusedSimpArgs false
set_option linter.unusedVariables false
set_option maxRecDepth 20000
set_option maxHeartbeats 8000000
open Value renaming int->I,slice->Z,bool->X,agg->U
open IntKind renaming i64->J
open Option renaming none->O,some->Y
open Obj renaming cells->M
open Ending renaming returned->R'
open Bool renaming true->A',false->F'
variable {ops:Array Oper} {c cs:Array Value} {Q:Exit->Act->World->Prop} {b h q y:Hold} {ls:List (List Row)} {es hs l qs:List Hold} {zs:List Int} {rest:List Oper} {vs xs:List Value} {B k m n size:Nat} {o:Oper} {a:Option Addr} {r:Row} {e t:TypeId} {v:Value} {W w:World}
def hcells(hs:List Hold):List Value:=hs.flatMap fun h=>[I J h.t,I J h.m]
theorem iF(hs:List Hold):(hcells hs).length=hs.length*2:=by
 induction hs with
 |nil=>rfl
 |cons r rs ih=>simp only[hcells,List.flatMap_cons,List.length_append,List.length_cons,List.length_nil]at*;omega
theorem bZ(a b:List Hold):hcells (a++b)=hcells a++hcells b:=by simp[hcells]
theorem aV0(hs:List Hold)(k:Nat)(h:k<hs.length):(hcells hs)[k*2]? =Y (I J (hs.getD k Hold.zero).t)/\(hcells hs)[k*2+1]? =Y (I J (hs.getD k Hold.zero).m):=by
 induction hs generalizing k with
 |nil=>simp at h
 |cons r rs ih=>
  cases k with
  |zero=>simp[hcells]
  |succ k=>have:=ih k (by simpa using h);simp only[hcells,List.flatMap_cons]at*;rw[show(k+1)*2=k*2+1+1 by omega];simpa using this
theorem bX4(hs:List Hold)(k:Nat)(r:Hold)(h:k<hs.length):
  ((hcells hs).set (k*2) (I J r.t)).set (k*2+1) (I J r.m)=hcells (hs.set k r):=by
 induction hs generalizing k with
 |nil=>simp at h
 |cons q rs ih=>
  cases k with
  |zero=>simp[hcells]
  |succ k=>have:=ih k (by simpa using h);simp only[hcells,List.flatMap_cons,List.set_cons_succ]at*;rw[<-this,show(k+1)*2=k*2+1+1 by omega];simp
theorem CellsAt.hlen(h:CellsAt w a (n*2) (hcells hs)):Hid (n=hs.length):=by have:=h.1;rw[iF]at this;exact(by omega:n=hs.length)
theorem CellsAt.hold(h:CellsAt w a (n*2) (hcells hs))(hk:k<n):
  ∃b off,a=Y ⟨b,off,O⟩/\w.cell? ⟨b,off+k*2,O⟩=Y (I J (hs.getD k Hold.zero).t)/\w.cell? ⟨b,off+k*2+1,O⟩=Y (I J (hs.getD k Hold.zero).m):=by
 obtain⟨b,off,ha,hc⟩:=h.2 (by omega);have hl:=h.hlen.out;obtain⟨h0,h1⟩:=aV0 hs k (by omega);exact⟨b,off,ha,(hc _ (by omega)).trans h0,by rw[Nat.add_assoc];exact(hc _ (by omega)).trans h1⟩
theorem cF(hs:List Hold):∀u∈hcells hs,u.oneCell'=A':=by intro x hx;simp only[hcells,List.mem_flatMap]at hx;obtain⟨r,_,hx⟩:=hx;simp at hx;rcases hx with rfl|rfl<;>rfl
theorem pO{b o:Nat}(h:w.heap[b]? =Y (M c t (0,0))):w.frozen? ⟨b,o,O⟩=F':=by simp[World.frozen?,h]
theorem aA9{g:Nat}{u0 u1:Value}(h:W.heap[g]? =Y (M #[u0,u1] t (0,0))):
  W.cell? ⟨g,0,O⟩=Y u0/\W.cell? ⟨g,1,O⟩=Y u1/\W.frozen? ⟨g,0,O⟩=F'/\W.frozen? ⟨g,1,O⟩=F':=
 ⟨cell_of_row _ _ _ _ _ _ h,cell_of_row _ _ _ _ _ _ h,pO h,pO h⟩
theorem fT(w:World)(t m:Int)(ty:TypeId):CellsAt (w.alloc (M #[I J t,I J m] ty)) (Y ⟨w.heap.size,0,O⟩) (1*2) (hcells [⟨t,m⟩]):=by refine⟨rfl,fun _=>⟨_,_,rfl,fun i hi=>?_⟩⟩;rw[Nat.zero_add];have:=cell_of_row (w.alloc (M #[I J t,I J m] ty)) _ i _ _ _ (heap_alloc_new w _);rw[this];simp[hcells]
theorem jX(hs:List Hold)(k:Nat):hcells (hs.take k)=(hcells hs).take (k*2):=by
 induction hs generalizing k with
 |nil=>simp[hcells]
 |cons r rs ih=>
  cases k with
  |zero=>simp[hcells]
  |succ k=>have:=ih k;simp only[hcells,List.take_succ_cons,List.flatMap_cons]at*;rw[this,show(k+1)*2=k*2+1+1 by omega];simp
theorem yM(h:CellsAt w a m xs)(hk:k<=m):CellsAt w a k (xs.take k):=by refine⟨by rw[List.length_take,h.1];omega,fun h0=>?_⟩;obtain⟨b,off,ha,hc⟩:=h.2 (by omega);refine⟨b,off,ha,fun i hi=>?_⟩;rw[hc i (by omega),List.getElem?_take_of_lt hi]
theorem bI4{b off:Nat}(h:CellsAt w (Y ⟨b,off,O⟩) m xs)(hk:k<=m):CellsAt w (Y ⟨b,off+k,O⟩) (m-k) (xs.drop k):=by refine⟨by rw[List.length_drop,h.1],fun hm=>?_⟩;obtain⟨b',off',ha,hc⟩:=h.2 (by omega);simp only[Option.some.injEq,Addr.mk.injEq,and_true]at ha;obtain⟨rfl,rfl⟩:=ha;refine⟨b,off+k,rfl,fun i hi=>?_⟩;rw[List.getElem?_drop,Nat.add_assoc,hc _ (by omega)]
theorem aV1(hs:List Hold)(k:Nat)(h:k<=hs.length):hcells (hs.drop k)=(hcells hs).drop (k*2):=by
 have e:hcells hs=hcells (hs.take k)++hcells (hs.drop k):=by rw[<-bZ,List.take_append_drop]
 have e2:(hcells (hs.take k)).length=k*2:=by rw[iF];simp;omega
 rw[e,<-e2,List.drop_left]
theorem cA8{base:Nat}{c:Nat}(h:w.ownsRow base e size (Z a n c) n xs)(h0:0<n):∃g,a=Y ⟨g,0,O⟩:=by
 rcases h.2 with⟨hv,h1⟩|⟨g,cp,cur,hv,_⟩
 .omega
 .simp only[Value.slice.injEq]at hv;exact⟨g,hv.1⟩
theorem fH{cap:Nat}(h:w.ownsRow B e size (Z a n cap) n xs):n<=cap:=by
 rcases h.2 with⟨hv,h0⟩|⟨g,cp,cur,hv,_,_,h1,_⟩
 .omega
 .simp only[Value.slice.injEq,true_and]at hv;obtain⟨_,rfl⟩:=hv;exact h1
namespace Ch
def ltE(a b:Hold):Bool:=decide (a.t<b.t)||(decide (a.t=b.t)&&decide (a.m<b.m))
theorem rC{a:Hold}:ltE a b=A'↔a.t<b.t\/(a.t=b.t/\a.m<b.m):=by simp[ltE]
theorem cP2{a c:Hold}(h1:ltE a b=A')(h2:ltE b c=A'):ltE a c=A':=by rw[rC]at*;omega
theorem cP1{a:Hold}(h1:ltE a b=F')(h2:a≠b):ltE b a=A':=by
 rw[rC];have h:¬(a.t<b.t\/(a.t=b.t/\a.m<b.m)):=fun e=>by rw[rC.2 e]at h1;cases h1
 have:¬(a.t=b.t/\a.m=b.m):=fun e=>h2 (by cases a;cases b;simp at e;simp[e]);omega
def iP(a b:Hold):Bool:=decide (a.t=b.t)&&decide (a.m=b.m)
theorem aB1{a:Hold}:iP a b=A'↔a=b:=by cases a;cases b;simp[iP]
def oG:List Hold->Hold->List Hold
 |[],e=>[e]
 |x::l,e=>if ltE x e then x::oG l e else if iP x e then x::l else e::x::l
def yC(l:List Hold):Prop:=l.Pairwise fun a b=>ltE a b=A'
theorem bK3{e:Hold}:y∈oG l e↔y=e\/y∈l:=by
 induction l with
 |nil=>simp[oG]
 |cons x l ih=>
  unfold oG;split
  .simp only[List.mem_cons,ih];constructor
   .rintro(h|h|h)
    .exact .inr (.inl h)
    .exact .inl h
    .exact .inr (.inr h)
   .rintro(h|h|h)
    .exact .inr (.inl h)
    .exact .inl h
    .exact .inr (.inr h)
  .split
   .next h=>rw[aB1]at h;subst h;simp
   .simp
theorem cN9(h:yC l)(e:Hold):yC (oG l e):=by
 unfold yC at*;induction l with
 |nil=>simp[oG]
 |cons x l ih=>
  rw[List.pairwise_cons]at h;unfold oG;split
  .next hx=>
   rw[List.pairwise_cons];refine⟨fun y hy=>?_,ih h.2⟩;rcases bK3.1 hy with rfl|hy
   .exact hx
   .exact h.1 y hy
  .next hx=>
   split
   .rw[List.pairwise_cons];exact h
   .next hne=>
    have hex:=cP1 (by simpa using hx) (fun e'=>hne (aB1.2 e'));rw[List.pairwise_cons,List.pairwise_cons];refine⟨fun y hy=>?_,h⟩;rcases List.mem_cons.1 hy with rfl|hy
    .exact hex
    .exact cP2 hex (h.1 y hy)
theorem cS3{e:Hold}(hk:k<=l.length)(h1:∀j,j<k->ltE (l.getD j Hold.zero) e=A')(h2:k<l.length->ltE (l.getD k Hold.zero) e=F'):
  oG l e=if(decide (k<l.length)&&iP (l.getD k Hold.zero) e)=A' then l else l.take k++[e]++l.drop k:=by
 induction l generalizing k with
 |nil=>
  have:k=0:=by simpa using hk
  subst this;simp[oG]
 |cons x l ih=>
  cases k with
  |zero=>
   have hx:ltE x e=F':=by simpa using h2 (by simp)
   unfold oG;rw[hx];cases he:iP x e
   .simp[he]
   .simp[he]
  |succ k=>
   have hx:ltE x e=A':=by simpa using h1 0 (by omega)
   unfold oG;rw[hx,if_pos rfl,ih (k:=k) (by simpa using hk) (fun j hj=>by simpa using h1 (j+1) (by omega)) (fun hl=>by simpa using h2 (by simpa using hl))];have e2:(decide (k+1<(x::l).length)&&iP ((x::l).getD (k+1) Hold.zero) e)=(decide (k<l.length)&&iP (l.getD k Hold.zero) e):=by simp
   rw[e2];split
   .rfl
   .simp
def eM(l:List Hold):List Hold:=l.foldl oG []
theorem tW(l:List Hold)(e:Hold):eM (l++[e])=oG (eM l) e:=by simp[eM]
theorem bG6(l:List Hold):yC (eM l):=by
 unfold eM;suffices H:∀(l acc:List Hold),yC acc->yC (l.foldl oG acc)from H l [] (by simp[yC]);intro l;induction l with
 |nil=>intro acc h;exact h
 |cons x l ih=>intro acc h;exact ih _ (cN9 h x)
theorem wI:y∈eM l↔y∈l:=by
 unfold eM;suffices H:∀(l acc:List Hold),y∈l.foldl oG acc↔y∈acc\/y∈l by simpa using H l []
 intro l;induction l with
 |nil=>intro acc;simp
 |cons x l ih=>
  intro acc;simp only[List.foldl_cons,List.mem_cons];rw[ih,bK3];constructor
  .rintro((h|h)|h)
   .exact .inr (.inl h)
   .exact .inl h
   .exact .inr (.inr h)
  .rintro(h|h|h)
   .exact .inl (.inr h)
   .exact .inl (.inl h)
   .exact .inr h
def jF(q:Hold)(hs:List Hold):List Hold:=(hs.filter fun h=>h.t !=q.t&&!kH h.m q.m).map fun h=>⟨q.t,h.t⟩
def kG(q:Hold)(qs:List Hold):List Hold:=qs.map fun x=>⟨q.t,x.t⟩
def pG(l:Lock)(k:Nat):List Hold:=(List.range k).flatMap fun i=>jF (l.qs.getD i Hold.zero) l.hs++kG (l.qs.getD i Hold.zero) (l.qs.take i)
def gU(ls:List Lock):List Hold:=ls.flatMap fun l=>pG l l.qs.length
theorem bR9{ls:List Lock}(h:k<ls.length):gU (ls.take (k+1))=gU (ls.take k)++pG (aH ls k) (aH ls k).qs.length:=by unfold gU aH;rw[bT ls Lock.zero k h];simp
theorem aX3(l:Lock)(k:Nat):pG l (k+1)=pG l k++(jF (l.qs.getD k Hold.zero) l.hs++kG (l.qs.getD k Hold.zero) (l.qs.take k)):=by unfold pG;rw[List.range_succ,List.flatMap_append];simp
theorem bT4(h:k<hs.length)(hc:((hs.getD k Hold.zero).t !=q.t&&!kH (hs.getD k Hold.zero).m q.m)=A'):jF q (hs.take (k+1))=jF q (hs.take k)++[⟨q.t,(hs.getD k Hold.zero).t⟩]:=by unfold jF;rw[bT hs Hold.zero k h,List.filter_append,List.map_append];generalize hs.getD k Hold.zero=x at*;rw[List.filter_cons_of_pos (p:=fun h:Hold=>h.t !=q.t&&!kH h.m q.m) hc];rfl
theorem cK7(h:k<hs.length)(hc:((hs.getD k Hold.zero).t !=q.t&&!kH (hs.getD k Hold.zero).m q.m)=F'):jF q (hs.take (k+1))=jF q (hs.take k):=by unfold jF;rw[bT hs Hold.zero k h,List.filter_append,List.map_append];generalize hs.getD k Hold.zero=x at*;rw[List.filter_cons_of_neg (p:=fun h:Hold=>h.t !=q.t&&!kH h.m q.m) (by simp only[hc];simp)];simp
theorem aS8(h:k<qs.length):kG q (qs.take (k+1))=kG q (qs.take k)++[⟨q.t,(qs.getD k Hold.zero).t⟩]:=by unfold kG;rw[bT qs Hold.zero k h];simp
end Ch
theorem Tryz.info265:(prog.info? 265).map (fun i=>(i.zero,i.size,i.bytes))=Y (Y (U #[I J 0,I J 0]),2,16):=by kernel_rfl
def lI(e:Hold):Bool:=!inB e.t 1 999||!inB e.m 1 999||e.t==e.m
def eO(es:List Hold):Int:=if 400<es.length then 2 else if es.any lI then 3 else 0
def rL(es:List Hold)(t:Int):Int:=if eO es !=0 then eO es else if inB t 1 999 then 0 else 3
theorem bT7(hk:k<es.length)(h:lI (es.getD k Hold.zero)=A'):es.any lI=A':=by rw[List.any_eq_true];exact⟨_,by simp[List.getD,hk],h⟩
def dX(zs:List Int):Int:=zs.foldl max 0
theorem zJ(zs:List Int)(v:Int):dX (zs++[v])=max (dX zs) v:=by simp[dX]
theorem wS(zs:List Int)(b:Int):b<=zs.foldl max b:=by
 induction zs generalizing b with
 |nil=>exact Int.le_refl _
 |cons z zs ih=>have:=ih (max b z);simp only[List.foldl_cons];omega
theorem aR1(zs:List Int)(b:Int):∀v∈zs,v<=zs.foldl max b:=by
 induction zs generalizing b with
 |nil=>intro v hv;simp at hv
 |cons z zs ih=>
  intro v hv;simp only[List.foldl_cons];rcases List.mem_cons.1 hv with rfl|hv
  .have:=wS zs (max b v);omega
  .exact ih _ v hv
theorem aK9(zs:List Int)(b:Int):zs.foldl max b=b\/zs.foldl max b∈zs:=by
 induction zs generalizing b with
 |nil=>exact Or.inl rfl
 |cons z zs ih=>
  simp only[List.foldl_cons];rcases ih (max b z)with h|h
  .rw[h];by_cases hz:z<=b
   .left;omega
   .right;rw[show max b z=z by omega];simp
  .right;exact List.mem_cons_of_mem _ h
theorem lN{v:Int}(h:v∈zs):v<=dX zs:=aR1 zs 0 v h
theorem xT(zs:List Int):0<=dX zs:=wS zs 0
theorem nZ(zs:List Int):dX zs=0\/dX zs∈zs:=aK9 zs 0
theorem bB7{a b:List Int}(h:∀v,v∈a↔v∈b):dX a=dX b:=by
 have h1:dX a<=dX b:=by
  rcases nZ a with e|e
  .rw[e];exact xT b
  .exact lN ((h _).1 e)
 have h2:dX b<=dX a:=by
  rcases nZ b with e|e
  .rw[e];exact xT a
  .exact lN ((h _).2 e)
 omega
def aY8(cyc sys:List Int):Int:=dX (sys.filter fun v=>cyc.contains v)
def nT(cyc sys:List Int):Int:=if inB (aY8 cyc sys) 1 999 then aY8 cyc sys else dX cyc
def tH(cyc sys:List Int):Int×Int:=if cyc.length=0 then(4,0)else if cyc.any (fun v=>!inB v 1 999)then(3,0)else(0,nT cyc sys)
def qE(sys:List Int)(p:Int×Bool)(v:Int):Int×Bool:=
 if(sys.contains v&&!p.2)||((sys.contains v==p.2)&&decide (p.1<v))then(v,sys.contains v)else p
def iE(cyc sys:List Int):Int×Bool:=cyc.foldl (qE sys) (0,F')
theorem zW(cyc sys:List Int)(v:Int):iE (cyc++[v]) sys=qE sys (iE cyc sys) v:=by simp[iE]
theorem cG5(cyc sys:List Int)(hc:∀v∈cyc,1<=v):iE cyc sys=if cyc.any (fun v=>sys.contains v)then(dX (cyc.filter fun v=>sys.contains v),A')else(dX cyc,F'):=by
 suffices H:∀(done todo:List Int),cyc=done++todo->iE done sys=if done.any (fun v=>sys.contains v)then(dX (done.filter fun v=>sys.contains v),A')else(dX done,F')by exact H cyc [] (by simp)
 intro done;induction hd:done.length generalizing done with
 |zero=>intro todo _;have:done=[]:=List.eq_nil_of_length_eq_zero hd;subst this;rfl
 |succ n ih=>
  intro todo e;have hne:done≠[]:=by intro h;rw[h]at hd;simp at hd
  obtain⟨ds,v,rfl⟩:∃ds v,done=ds++[v]:=⟨done.dropLast,done.getLast hne,(List.dropLast_concat_getLast hne).symm⟩
  have ih:=ih ds (by simpa using hd) (v::todo) (by simpa using e);have hv:1<=v:=hc v (by rw[e];simp);have hg:=xT (ds.filter fun v=>sys.contains v);rw[zW,ih,List.any_append,List.filter_append,zJ];unfold qE;cases hs:sys.contains v
  .cases ha:ds.any (fun v=>sys.contains v)
   .simp only[hs,List.any_cons,List.any_nil,Bool.or_false,Bool.false_eq_true,if_false,List.filter_cons,List.filter_nil,List.append_nil,Bool.false_and,Bool.false_or,Bool.not_false,Bool.and_false];by_cases hl:dX ds<v
    .simp only[hl,decide_true,beq_self_eq_true,Bool.and_self,if_true];rw[show max (dX ds) v=v by omega]
    .simp only[hl,decide_false,Bool.and_false,Bool.false_eq_true,if_false];rw[show max (dX ds) v=dX ds by omega]
   .have hns:v∉sys:=by simpa using hs
    simp[hns,List.filter_cons]
  .cases ha:ds.any (fun v=>sys.contains v)
   .have hz:ds.filter (fun v=>sys.contains v)=[]:=by rw[List.filter_eq_nil_iff];intro x hx hh;rw[List.any_eq_false]at ha;exact absurd hh (by simpa using ha x hx)
    have h1:max 0 v=v:=by omega
    simp only[hs,hz,List.any_cons,List.any_nil,List.filter_cons,List.filter_nil,if_true,List.nil_append,Bool.or_false,Bool.or_true,Bool.false_eq_true,if_false,Bool.true_and,Bool.not_false,Bool.true_or];simp[dX,h1]
   .simp only[hs,List.any_cons,List.any_nil,List.filter_cons,List.filter_nil,if_true,Bool.or_false,Bool.or_true,Bool.not_true,Bool.and_false,Bool.false_or,beq_self_eq_true,Bool.true_and];rw[zJ];by_cases hl:dX (ds.filter fun v=>sys.contains v)<v
    .simp only[hl,decide_true,if_true];rw[show max (dX (ds.filter fun v=>sys.contains v)) v=v by omega]
    .simp only[hl,decide_false,Bool.false_eq_true,if_false];rw[show max (dX (ds.filter fun v=>sys.contains v)) v=dX (ds.filter fun v=>sys.contains v)by omega]
theorem aI6(cyc sys:List Int):aY8 cyc sys=dX (cyc.filter fun v=>sys.contains v):=by refine bB7 fun v=>?_;simp only[List.mem_filter,List.contains_iff_mem];exact And.comm
theorem nJ(v a b:Int):inB v a b=A'↔a<=v/\v<=b:=by simp[inB]
theorem bE8(cyc sys:List Int)(hc:∀v∈cyc,inB v 1 999=A'):(iE cyc sys).1=nT cyc sys:=by
 have hc':∀v∈cyc,1<=v/\v<=999:=fun v hv=>(nJ v 1 999).1 (hc v hv);rw[cG5 cyc sys (fun v hv=>(hc' v hv).1)];unfold nT;rw[aI6];cases ha:cyc.any (fun v=>sys.contains v)
 .have hz:cyc.filter (fun v=>sys.contains v)=[]:=by rw[List.filter_eq_nil_iff];intro x hx hh;rw[List.any_eq_false]at ha;exact absurd hh (by simpa using ha x hx)
  rw[hz];rfl
 .obtain⟨x,hx,hs⟩:=List.any_eq_true.1 ha;have hm:x∈cyc.filter (fun v=>sys.contains v):=List.mem_filter.2 ⟨hx,hs⟩;have h1:=lN hm;have h2:=(hc' x hx).1;rcases nZ (cyc.filter fun v=>sys.contains v)with e|e
  .omega
  .have h3:=(hc' _ (List.mem_filter.1 e).1).2;rw[if_pos rfl,if_pos ((nJ _ _ _).2 ⟨by omega,h3⟩)]
def eH(k a:Int):List Hold:=
 if k=1 then [⟨0,1⟩,⟨a+1,3⟩]
 else if k=2\/k=3\/k=8 then [⟨0,2⟩,⟨a+1,5⟩]
 else if k=4\/k=5\/k=10 then [⟨0,3⟩]
 else if k=9 then [⟨0,1⟩]
 else []
namespace Ch
theorem bK4{l:List Row}{x:Row}:x∈eF r l↔x=r\/(x∈l/\x.k≠r.k):=by
 induction l with
 |nil=>simp[eF]
 |cons y l ih=>
  simp only[eF];split
  .rename_i hy
   rw[List.mem_cons,ih,List.mem_cons];constructor
   .rintro(rfl|rfl|⟨h1,h2⟩)
    .exact .inr ⟨.inl rfl,by omega⟩
    .exact .inl rfl
    .exact .inr ⟨.inr h1,h2⟩
   .rintro(rfl|⟨rfl|h1,h2⟩)
    .exact .inr (.inl rfl)
    .exact .inl rfl
    .exact .inr (.inr ⟨h1,h2⟩)
  .rw[List.mem_cons,List.mem_filter];simp[dQ]
theorem dC9{l:List Row}(h:l.Pairwise (fun a b=>a.k<b.k)):(eF r l).Pairwise (fun a b=>a.k<b.k):=by
 induction l with
 |nil=>simp[eF]
 |cons y l ih=>
  obtain⟨h1,h2⟩:=List.pairwise_cons.1 h;simp only[eF];split
  .rename_i hy
   refine List.Pairwise.cons (fun x hx=>?_) (ih h2);rcases bK4.1 hx with rfl|⟨hx,_⟩
   .exact hy
   .exact h1 x hx
  .rename_i hy
   refine List.Pairwise.cons (fun x hx=>?_) (h.filter _);obtain⟨hx,hk⟩:=List.mem_filter.1 hx;simp[dQ]at hk;rcases List.mem_cons.1 hx with rfl|hx
   .omega
   .have:=h1 x hx;omega
theorem cO0{l c:List Row}(h:∀x∈c,r.k<x.k):eF r (l++c)=eF r l++c:=by
 induction l with
 |nil=>
  cases c with
  |nil=>simp[eF]
  |cons x c=>
   have h1:=h x List.mem_cons_self;have h2:(x::c).filter (dQ r.k)=x::c:=aK5 fun y hy=>by have:=h y hy;simp[dQ];omega
   simp only[List.nil_append,eF,if_neg (show ¬x.k<r.k by omega),h2];rfl
 |cons y l ih=>
  simp only[List.cons_append,eF];split
  .rw[ih];rfl
  .have h2:c.filter (dQ r.k)=c:=aK5 fun y hy=>by have:=h y hy;simp[dQ];omega
   rw[<-List.cons_append,List.filter_append,h2];rfl
theorem bW7(ls:List (List Row))(key:Int)(n:Nat):(fP ls key n=0\/gD (ls.getD (fP ls key n) [])<=key)/\∀k,fP ls key n<k->k<n->key<gD (ls.getD k []):=by
 induction n with
 |zero=>exact⟨.inl rfl,fun k _ h=>by omega⟩
 |succ n ih=>
  by_cases h:gD (ls.getD n [])<=key
  .rw[aL0 h];exact⟨.inr h,fun k h1 h2=>by omega⟩
  .rw[aU5 h];refine⟨ih.1,fun k h1 h2=>?_⟩;by_cases e:k=n
   .subst e;omega
   .exact ih.2 k h1 (by omega)
theorem yX(l:List Row):(gX l).flatten=l:=by unfold gX;split<;>simp
theorem aE3(hg:aL ls=0):(put ls r).flatten=eF r ls.flatten:=by
 unfold put;by_cases h0:ls.length=0
 .rw[if_pos h0];obtain rfl:=List.length_eq_zero_iff.1 h0;simp[eF]
 .rw[if_neg h0];have hp:=nY (ls:=ls) (key:=r.k) (k:=ls.length) (by omega);obtain⟨s1,s2⟩:=bW7 ls r.k ls.length;generalize fP ls r.k ls.length=p at*;have hup:=dI9 hg;have hs:=dA2 ls [] p hp;have hA:∀x∈(ls.take p).flatten,x.k<r.k:=by
   intro x hx;obtain⟨l,hl,hxl⟩:=List.mem_flatten.1 hx;obtain⟨i,hi,rfl⟩:=List.getElem_of_mem hl;have hip:i<p:=by simp at hi;omega
   rcases s1 with s1|s1
   .omega
   .obtain⟨y,hy,ey⟩:=aU4 (fR hg p hp).1;have:=List.pairwise_iff_getElem.1 hup.2 i p (by omega) hp hip x (by simpa using hxl) y (by rw[<-lB ls [] p hp];exact hy);omega
  have hC:∀x∈(ls.drop (p+1)).flatten,r.k<x.k:=by
   intro x hx;obtain⟨l,hl,hxl⟩:=List.mem_flatten.1 hx;obtain⟨i,hi,rfl⟩:=List.getElem_of_mem hl;have hin:p+1+i<ls.length:=by simp at hi;omega
   have h1:=s2 (p+1+i) (by omega) hin;have hxl':x∈ls[p+1+i]:=by simpa using hxl
   have h2:=xU (hup.1 _ (List.getElem_mem hin)) x hxl';rw[lB ls [] _ hin]at h1;omega
  conv=>rhs;rw[hs]
  rw[List.flatten_append,List.flatten_append,yX,List.flatten_append,List.flatten_cons,zD hA,cO0 hC,List.append_assoc]
theorem bJ7{l x:List Row}(h:x∈gX l)(h5:l.length<=5):x.length<=4:=by
 unfold gX at h;split at h
 .simp only[List.mem_singleton]at h;subst h;omega
 .simp only[List.mem_cons,List.not_mem_nil,or_false]at h;rcases h with rfl|rfl<;>simp<;>omega
theorem xA(hg:aL ls=0)(hr:r.fault=0)(hl:(put ls r).length<=60):aL (put ls r)=0:=by
 have hgi:=(jW ls).1 hg;refine(jW _).2 ⟨hl,fun x hx=>⟨by have:=(bC7 hg hx).1;omega,?_⟩,fun x hx=>?_,?_⟩
 .unfold put at hx;split at hx
  .simp only[List.mem_singleton]at hx;subst hx;simp
  .have hp:=nY (ls:=ls) (key:=r.k) (k:=ls.length) (by omega);rcases List.mem_append.1 hx with hx|hx
   .rcases List.mem_append.1 hx with hx|hx
    .exact(hgi.2.1 x (List.mem_of_mem_take hx)).2
    .refine bJ7 hx ?_;have h1:=aC9 r (ls.getD (fP ls r.k ls.length) []);have h2:=(hgi.2.1 (ls.getD (fP ls r.k ls.length) []) (by rw[lB ls [] _ hp];exact List.getElem_mem hp)).2;omega
   .exact(hgi.2.1 x (List.mem_of_mem_drop hx)).2
 .rw[aE3 hg]at hx;rcases bK4.1 hx with rfl|⟨h,_⟩
  .exact hr
  .exact hgi.2.2.1 x h
 .rw[aE3 hg];exact dC9 hgi.2.2.2
end Ch
namespace Ch
def aI(hs:List Hold)(t:Int):List Hold:=hs.filter fun h=>!(h.t==t)
theorem aY1{t:Int}(hk:k<hs.length)(h:(hs.getD k Hold.zero).t≠t):aI (hs.take (k+1)) t=aI (hs.take k) t++[hs.getD k Hold.zero]:=by unfold aI;rw[bT hs Hold.zero k hk,List.filter_append];generalize hs.getD k Hold.zero=r at*;simp[h]
theorem bG7{t:Int}(hk:k<hs.length)(h:(hs.getD k Hold.zero).t=t):aI (hs.take (k+1)) t=aI (hs.take k) t:=by unfold aI;rw[bT hs Hold.zero k hk,List.filter_append];generalize hs.getD k Hold.zero=r at*;simp[h]
theorem jR(hs:List Hold)(t:Int):(aI hs t).length<=hs.length:=List.length_filter_le _ _
theorem mF(h:aZ hs=A')(t:Int):aZ (aI hs t)=A':=by unfold aZ aI at*;rw[List.all_eq_true]at*;intro x hx;exact h x (List.mem_filter.1 hx).1
theorem iZ(h:cP hs=F')(t:Int):cP (aI hs t)=F':=by rw[fX]at*;exact h.sublist List.filter_sublist
theorem cG2{q:List Hold}(ht:cP (h::q)=F'):cP q=F':=by rw[fX,List.pairwise_cons]at ht;rw[fX];exact ht.2
def iS(hs:List Hold)(h:Hold):List Hold:=if aV hs h.t then hs.set (atH hs h.t).toNat h else hs++[h]
theorem qT(h1:aV hs h.t=A')(h2:atH hs h.t=(k:Int)):iS hs h=hs.set k h:=by unfold iS;rw[h1,h2];simp
theorem pF(h1:aV hs h.t=F'):iS hs h=hs++[h]:=by unfold iS;rw[h1];rfl
theorem nC(hs:List Hold)(h:Hold):(iS hs h).length<=hs.length+1:=by unfold iS;split<;>simp
theorem kU(hn:aZ hs=A')(hh:lU h=A'):aZ (iS hs h)=A':=by
 unfold aZ at*;rw[List.all_eq_true]at*;intro x hx;unfold iS at hx;split at hx
 .rcases List.mem_or_eq_of_mem_set hx with h1|h1
  .exact hn x h1
  .rw[h1];exact hh
 .rw[List.mem_append]at hx;rcases hx with h1|h1
  .exact hn x h1
  .simp at h1;rw[h1];exact hh
def dD(hs:List Hold):List Hold->List Hold×List Hold×List Int
 |[]=>(hs,[],[])
 |h::q=>if eC hs (h::q)then((dD (iS hs h) q).1,(dD (iS hs h) q).2.1,h.t::(dD (iS hs h) q).2.2)else(hs,h::q,[])
theorem wJ(h:eC hs qs=F'):dD hs qs=(hs,qs,[]):=by
 cases qs with
 |nil=>rfl
 |cons q qs=>unfold dD;rw[h];rfl
theorem tP{q:List Hold}(hf:eC hs (h::q)=A'):dD hs (h::q)=((dD (iS hs h) q).1,(dD (iS hs h) q).2.1,h.t::(dD (iS hs h) q).2.2):=by
 conv=>lhs;unfold dD
 rw[hf];rfl
theorem bR8(hs qs:List Hold):(dD hs qs).1.length+(dD hs qs).2.1.length<=hs.length+qs.length/\(dD hs qs).2.2.length<=qs.length:=by
 induction qs generalizing hs with
 |nil=>simp[dD]
 |cons q qs ih=>
  unfold dD;split
  .have:=ih (iS hs q);have:=nC hs q;simp only[List.length_cons];omega
  .simp
def fQ(l:Lock)(t:Int):Lock:=⟨l.r,(dD (aI l.hs t) (aI l.qs t)).1,(dD (aI l.hs t) (aI l.qs t)).2.1⟩
def sD(l:Lock)(t:Int):List Int:=(dD (aI l.hs t) (aI l.qs t)).2.2
def dG(ls:List Lock)(t:Int):List Lock:=ls.map fun l=>fQ l t
def mJ(ls:List Lock)(t:Int):List Int:=ls.flatMap fun l=>sD l t
theorem aG8(ls:List Lock)(t:Int)(k:Nat)(h:k<ls.length):mJ (ls.take (k+1)) t=mJ (ls.take k) t++sD (aH ls k) t:=by unfold mJ aH;rw[bT ls Lock.zero k h];simp
theorem mK{ls:List Lock}(h:aS ls=0):ls.length<=101:=by
 have hi:∀i,i<ls.length->(i:Int)<=(aH ls i).r:=by
  intro i;induction i with
  |zero=>intro hl;exact(iI ((eL h).1 0 hl)).1
  |succ i ih=>intro hl;have h1:=ih (by omega);have h2:=bP1 h (show i<i+1 by omega) hl;omega
 rcases Nat.eq_zero_or_pos ls.length with h0|h0
 .omega
 .have h1:=hi (ls.length-1) (by omega);have h2:=(iI ((eL h).1 (ls.length-1) (by omega))).2.1;omega
end Ch
theorem cC1(a:Option Addr)(n cap:Nat)(ls:List (List Row))(w:World)(h:LvAt w a n ls)(hs:aW ls<=1048576):
  Calls prog 142 #[Z a n cap] w fun e w'=>e=R' (I J (aL ls))/\Below w.heap.size w w':=by
 have HL:=h.len;have hn:n<=1048576:=by unfold aW at hs;have:=HL.out;omega
 by_cases h6:60<n
 .go_enter func142,ntmps142
  go_wp2;go_ret;exact⟨cK (by rw[aL,if_pos (by have:=HL.out;omega)]),u'⟩
 have HP:Hid (aL ls=tM ls 0):=by show _=_;rw[aL,if_neg (by have:=HL.out;omega)];rfl
 have hd6:decide ((60:Int)<(n:Int))=F':=by simp;omega
 go_enter func142,ntmps142
 go_wp2;go_loopw [3,4] (fun q i wr=>∃k:Nat,k<=n/\i=I J k/\q=I J (mW ls k)/\Hid (aL ls=tM ls k)/\Below w.heap.size w wr) (fun _ i _=>n-(intOf i).toNat)
 case atStart=>exact⟨0,Nat.zero_le _,rfl,rfl,HP.out,u'⟩
 case round=>
  clear HP;obtain⟨k,hk,rfl,rfl,HR,hB⟩:=hrel;by_cases hlt:k<n
  .have hkl:k<ls.length:=by have:=HL.out;omega
   have HS:=hid (eZ hs k);have H0:Hid ((ls.getD k []).length=0->aL ls=1):=fun h0=>HR.out.trans (bF7 ls k hkl h0);have HF:Hid ((ls.getD k []).length≠0->(cI (ls.getD k []) !=0)=A'->aL ls=cI (ls.getD k [])):=fun h0 hf=>HR.out.trans (bT0 ls k hkl h0 hf);have HM:Hid ((ls.getD k []).length≠0->(cI (ls.getD k []) !=0)=F'->gD (ls.getD k [])<=mW ls k->aL ls=1):=fun h0 hf hl=>HR.out.trans (cJ3 ls k hkl h0 hf hl);have HN:Hid ((ls.getD k []).length≠0->(cI (ls.getD k []) !=0)=F'->¬gD (ls.getD k [])<=mW ls k->aL ls=tM ls (k+1)):=fun h0 hf hl=>HR.out.trans (cS7 ls k hkl h0 hf hl);have HA:Hid (mW ls (k+1)=mZ (ls.getD k [])):=rfl;obtain⟨b,off,ai,ni,ci,rfl,hc,hr,hni⟩:=(h.below hB).leaf hlt;have hbl:=aD hc;have HRl:=hr.rlen;have hni':ni<=1048576:=by have:=HS.out;have:=HRl.out;omega
   generalize ls.getD k []=l at*;generalize mW ls k=q at*;cases ni with
   |zero=>go_wp2;go_ret;exact⟨cK (H0.out HRl.out.symm).symm,hB⟩
   |succ m=>
    have hl0:l.length≠0:=by have:=HRl.out;omega
    have HFK:Hid (gD l=(l.getD 0 Row.zero).k):=rfl;have HLK:Hid (mZ l=(l.getD m Row.zero).k):=by show _=_;have:=HRl.out;rw[mZ,<-this];rfl
    obtain⟨b1,o1,rfl,q0,_,_⟩:=hr.row (k:=0) (by omega);obtain⟨b1',o1',hbo,p0,_,_⟩:=hr.row (k:=m) (by omega);simp only[Option.some.injEq,Addr.mk.injEq,and_true]at hbo;obtain⟨rfl,rfl⟩:=hbo;generalize(l.getD 0 Row.zero).k=fk at*;generalize(l.getD m Row.zero).k=lk at*;rw[Nat.zero_mul,Nat.add_zero]at q0;cases hf:(cI l !=0)
    .by_cases hle:fk<=q
     .go_wp2_with fail
      refine(tD _ _ _ l _ hr (by omega)).mono ?_;rintro e w1⟨rfl,b1⟩;have hB1:=hB.trans (b1.mono hB.size);have hc:=aC b1 hc;have q0:=aC b1 q0;generalize cI l=pf at*;go_wp2;go_ret;exact⟨cK (HM.out hl0 hf (by rw[HFK.out];exact hle)).symm,hB1⟩
     .go_wp2_with fail
      refine(tD _ _ _ l _ hr (by omega)).mono ?_;rintro e w1⟨rfl,b1⟩;have hB1:=hB.trans (b1.mono hB.size);have hc:=aC b1 hc;have q0:=aC b1 q0;have p0:=aC b1 p0;generalize cI l=pf at*;go_wp2;go_quiet (fail)
      go_wp2;go_roundw;case rel=>exact⟨k+1,by omega,by go_num,by rw[HA.out,HLK.out],HN.out hl0 hf (by rw[HFK.out];exact hle),Go.below_drewN hB1 _⟩
      case measure=>simp[intOf];omega
    .go_wp2_with fail
     refine(tD _ _ _ l _ hr (by omega)).mono ?_;rintro e w1⟨rfl,b1⟩;have hB1:=hB.trans (b1.mono hB.size);generalize cI l=pf at*;go_wp2;go_ret;exact⟨cK (HF.out hl0 hf).symm,hB1⟩
  .obtain rfl:k=n:=by omega
   go_wp2;go_ret;exact⟨cK (by rw[HR.out,cJ2 _ _ (by have:=HL.out;omega)]),hB⟩
def OwnV(w:World)(B:Nat)(v:Value)(n:Nat)(vs:List Value)(ls:List (List Row)):Prop:=
 ls.length=n/\w.ownsRow B 200 1 v n vs/\
  (∀i,i<n->∃x,vs[i]? =Y x/\w.ownsRow B 86 3 x (ls.getD i []).length (rcells (ls.getD i [])))/\
  (∀(i j:Nat) (x y:Value) (g:Nat),i<j->vs[i]? =Y x->vs[j]? =Y y->x.ownBlock=Y g->y.ownBlock≠Y g)/\
  (∀(i:Nat) (x:Value) (g:Nat),vs[i]? =Y x->v.ownBlock=Y g->x.ownBlock≠Y g)
theorem OwnLv.told(h:OwnLv w B v n ls):∃vs,OwnV w B v n vs ls:=by obtain⟨hl,vs,ho,hi,hd,hd'⟩:=h;exact⟨vs,hl,ho,hi,hd,hd'⟩
theorem OwnV.own(h:OwnV w B v n vs ls):OwnLv w B v n ls:=by obtain⟨hl,ho,hi,hd,hd'⟩:=h;exact⟨hl,vs,ho,hi,hd,hd'⟩
theorem OwnV.lt(h:OwnV w B v n vs ls):∀(i:Nat) (x:Value) (g:Nat),vs[i]? =Y x->x.ownBlock=Y g->B<=g/\g<w.heap.size:=by
 intro i x g hx hg;obtain⟨hl,ho,hi,hd,hd'⟩:=h;have hvl:vs.length=n:=by have:=ho.1;omega
 have hin:i<n:=by
  rcases Nat.lt_or_ge i n with h|h
  .exact h
  .rw[List.getElem?_eq_none (by omega)]at hx;cases hx
 obtain⟨y,h1,h2⟩:=hi i hin;rw[hx]at h1;cases h1;exact aG h2 g hg
theorem OwnV.below{w':World}(h:OwnV w B v n vs ls)(hb:Below w.heap.size w w'):OwnV w' B v n vs ls:=by obtain⟨hl,ho,hi,hd,hd'⟩:=h;refine⟨hl,aF ho hb,fun i hlt=>?_,hd,hd'⟩;obtain⟨x,h1,h2⟩:=hi i hlt;exact⟨x,h1,aF h2 hb⟩
def Ch.before(ls:List (List Row))(k:Nat):Nat:=((ls.take k).map List.length).sum
theorem bQ4(a:Option Addr)(n cap:Nat)(key:Int)(ls:List (List Row))(w:World)(h:LvAt w a n ls)(hs:aW ls<=1048576)(hg:∀k,k<n->(ls.getD k []).length≠0):
  Calls prog 140 #[Z a n cap,I J key] w fun e w'=>e=R' (I J (fP ls key n))/\w'=w:=by
 have HL:=h.len;have hn:n<=1048576:=by unfold aW at hs;have:=HL.out;omega
 go_enter func140,ntmps140
 go_wp2;go_loop [5,6] (fun q i=>∃k:Nat,k<=n/\i=I J k/\q=I J (fP ls key k)) (fun _ i=>n-(intOf i).toNat)
 case atStart=>exact⟨0,Nat.zero_le _,rfl,rfl⟩
 case round=>
  obtain⟨k,hk,rfl,rfl⟩:=hrel;by_cases hlt:k<n
  .have HS:=hid (eZ hs k);have HY:=hid (fun hle=>aL0 (ls:=ls) (key:=key) (k:=k) hle);have HN:=hid (fun hle=>aU5 (ls:=ls) (key:=key) (k:=k) hle);have hg0:=hg k hlt;obtain⟨b,off,ai,ni,ci,rfl,hc,hr,hni⟩:=h.leaf hlt;have HRl:=hr.rlen;have hni':ni<=1048576:=by have:=HS.out;have:=HRl.out;omega
   obtain⟨m,rfl⟩:∃m,ni=m+1:=⟨ni-1,by have:=HRl.out;omega⟩
   obtain⟨b1,o1,rfl,q0,_,_⟩:=hr.row (k:=0) (by omega);simp only[Nat.zero_mul,Nat.add_zero]at q0;have HFK:Hid (gD (ls.getD k [])=((ls.getD k []).getD 0 Row.zero).k):=rfl;generalize ls.getD k []=l at*;generalize(l.getD 0 Row.zero).k=fk at*;generalize fP ls key k=q at*;by_cases hle:fk<=key
   .go_wp2;go_round
    case rel=>exact⟨k+1,by omega,by go_num,by rw[HY.out (by rw[HFK.out];exact hle)]⟩
    case measure=>simp[intOf];omega
   .go_wp2;go_round
    case rel=>exact⟨k+1,by omega,by go_num,by rw[HN.out (by rw[HFK.out];exact hle)]⟩
    case measure=>simp[intOf];omega
  .obtain rfl:k=n:=by omega
   go_wp2;go_ret;exact⟨rfl,rfl⟩
theorem aI7{w1:World}(b:Below (w.alloc (M cs t)).heap.size (w.alloc (M cs t)) w1)(i:Nat):w1.frozen? ⟨w.heap.size,i,O⟩=F':=by rw[(uH b).2 w.heap.size i (by simp)];simp[go_sem]
theorem nW(a b:List Row):rcells (a++b)=rcells a++rcells b:=by simp[rcells]
theorem aN9(rs:List Row):∀u∈rcells rs,u.oneCell'=A':=by intro u hu;simp only[rcells,List.mem_flatMap,List.mem_cons,List.not_mem_nil,or_false]at hu;obtain⟨r,_,rfl|rfl|rfl⟩:=hu<;>rfl
theorem fC{a:Act}(s x:Operand)
  (B:Nat) (v:Value) (n:Nat) (rs:List Row) (m:Nat) (zs:List Row) (hm:n+m<=2097152)
  (ho:o.op= .call {callee:=.builtin .append,args:=#[s,x],argTypes:=#[24,24]}) (hgd:o.guard=O)
  (hs:a.eval s=v) (hx:∃ad c,a.eval x=Z (Y ad) m c/\CellsAt w (Y ad) (m*3) (rcells zs))
  (hown:w.ownsRow B 86 3 v n (rcells rs)) (hbase:B<=w.heap.size)
  (hK:∀a' c' w',w'.ownsRow B 86 3 (Z a' (n+m) c') (n+m) (rcells (rs++zs))->Below B w w'->wpList prog ops Q rest (a.put o.dst (Z a' (n+m) c')) w'):
  wpList prog ops Q (o::rest) a w:=by
 obtain⟨ad,c,hx,hc⟩:=hx;obtain⟨i0,hi,hz0,hz1,hz2⟩:=info_parts Tryz.info86;refine wpList_append_own w hgd s x 24 ho B 86 i0 _ 3 24 underlying24 hi hz0 hz1 hz2 rfl (by omega) v n (rcells rs) hs hown ad m c (rcells zs) hx hc.1 ?_ (aN9 zs) (by unfold maxLen;omega) (by omega) hbase ?_
 .intro j u hj;have hjl:j<(rcells zs).length:=(List.getElem?_eq_some_iff.1 hj).1;have hl:=hc.1;obtain⟨b,off,ha,hcc⟩:=hc.2 (by omega);simp only[Option.some.injEq]at ha;subst ha;have e:(⟨b,off,O⟩:Addr).add j=⟨b,off+j,O⟩:=by
   unfold Addr.add;split
   .next h0=>subst h0;rfl
   .rfl
  rw[e,hcc j (by omega),hj]
 .intro v' w' hown' hgrow _;rw[<-nW]at hown';obtain⟨a',c',rfl⟩:=dI hown';refine hK a' c' w' hown' (u'.grown hgrow hbase (fun k hk=>?_));rcases hown.2 with⟨hv,_⟩|⟨g,cap',cur,hv,hb,_⟩
  .subst hv;simp[Value.ownBlock]at hk
  .subst hv;simp[Value.ownBlock]at hk;omega
theorem jV(w:World)(B:Nat)(hB:B<=w.heap.size):(w.alloc (M #[] 86)).ownsRow B 86 3 (Z (Y ⟨w.heap.size,0,O⟩) 0 0) 0 (rcells []):=
 World.ownsRow_lit w #[] 0 hB (by unfold maxLen;omega) rfl
theorem bA0(ls:List (List Row))(k:Nat)(h:k<ls.length):(ls.take (k+1)).flatten=(ls.take k).flatten++ls.getD k []:=by rw[bT ls [] k h];simp
theorem bJ3(ls:List (List Row)):ls.flatten.length=(ls.map List.length).sum:=by simp[List.length_flatten]
theorem nU(hs:aW ls<=1048576)(k:Nat):(ls.take k).flatten.length<=1048576:=by have:=bM3 ls k;rw[bJ3];unfold aW at hs;omega
theorem tE(a:Option Addr)(n cap:Nat)(ls:List (List Row))(w:World)(h:LvAt w a n ls)(hs:aW ls<=1048576)(hg:∀k,k<n->(ls.getD k []).length≠0):
  Calls prog 197 #[Z a n cap] w fun e w'=>∃a' c',e=R' (Z a' ls.flatten.length c')/\w'.ownsRow w.heap.size 86 3 (Z a' ls.flatten.length c') ls.flatten.length (rcells ls.flatten)/\Below w.heap.size w w':=by
 have HL:=h.len;have hn:n<=1048576:=by unfold aW at hs;have:=HL.out;omega
 have o0:=jV w w.heap.size z';go_enter func197,ntmps197
 go_wp2;go_loopw [3,4] (fun q i wr=>∃(k m:Nat) (a':Option Addr) (c':Nat),k<=n/\i=I J k/\q=Z a' m c'/\Hid (m=(ls.take k).flatten.length)/\wr.ownsRow w.heap.size 86 3 (Z a' m c') m (rcells (ls.take k).flatten)/\Below w.heap.size w wr) (fun _ i _=>n-(intOf i).toNat)
 case atStart=>exact⟨0,0,_,_,Nat.zero_le _,rfl,rfl,rfl,by simpa using o0,q'⟩
 case round=>
  obtain⟨k,m,a',c',hk,rfl,rfl,HM,own,hB⟩:=hrel;by_cases hlt:k<n
  .have HS:=hid (eZ hs k);have HF:=hid (bA0 ls k (by have:=HL.out;omega));have HZ:=hid (nU hs k);have hg0:=hg k hlt;obtain⟨b,off,ai,ni,ci,rfl,hc,hr,hni⟩:=(h.below hB).leaf hlt;have HRl:=hr.rlen;obtain⟨b1,o1,rfl,_⟩:=hr.row (k:=0) (by have:=HRl.out;omega);have hsum:m+ni<=2097152:=by have:=HZ.out;have:=HM.out;have:=HS.out;have:=HRl.out;omega
   generalize ls.getD k []=l at*;generalize(ls.take k).flatten=F at*;go_wp2_with(at_builtin;go_must (refine fC (.tmp 12) (.tmp 17) w.heap.size (Z a' m c') m F ni l hsum ?_ ?_ ?_ ?_ ?_ ?_ ?_;exact rfl;exact rfl;exact rfl;exact⟨_,_,rfl,hr⟩;exact own;exact hB.size;intro a3 c3 w3 own3 b3))
   go_roundw;case rel=>exact⟨k+1,m+ni,a3,c3,by omega,by go_num,rfl,(by show _=_;rw[HF.out];have h1:=HM.out;have h2:=HRl.out;simp;omega),by rw[HF.out];exact own3,hB.trans b3⟩
   case measure=>simp[intOf];omega
  .obtain rfl:k=n:=by omega
   go_wp2;go_ret;have e1:=HL.out;have e2:=HM.out;rw[List.take_of_length_le (by omega)]at own e2;subst e2;exact⟨a',c',rfl,own,hB⟩
theorem mU{a:Act}(s x:Operand)
  (B:Nat) (v:Value) (n:Nat) (xs:List Value) (m:Nat) (ys:List Value) (hm:n+m<=2097152) (h1:∀u∈ys,u.oneCell'=A')
  (ho:o.op= .call {callee:=.builtin .append,args:=#[s,x],argTypes:=#[61,61]}) (hgd:o.guard=O)
  (hs:a.eval s=v) (hx:∃ad c,a.eval x=Z (Y ad) m c/\CellsAt w (Y ad) m ys)
  (hown:w.ownsRow B 200 1 v n xs) (hbase:B<=w.heap.size)
  (hK:∀a' c' w',w'.ownsRow B 200 1 (Z a' (n+m) c') (n+m) (xs++ys)->w.grownBy w' v.ownBlock->(∀g,(Z a' (n+m) c').ownBlock=Y g->v.ownBlock=Y g\/w.heap.size<=g)->wpList prog ops Q rest (a.put o.dst (Z a' (n+m) c')) w') (hm0:0<m):
  wpList prog ops Q (o::rest) a w:=by
 obtain⟨ad,c,hx,hc⟩:=hx;obtain⟨i0,hi,hz0,hz1,hz2⟩:=info_parts Tryz.info200;refine wpList_append_lies w hgd s x 61 ho B 200 i0 _ 1 24 underlying61 hi hz0 hz1 hz2 rfl (by omega) v n xs hs hown ad m c ys hx (by rw[Nat.mul_one];exact hc.1) ?_ h1 hm0 (by unfold maxLen;omega) (by omega) hbase _ rfl ?_
 .intro j u hj;have hjl:j<ys.length:=(List.getElem?_eq_some_iff.1 hj).1;have hl:=hc.1;obtain⟨b,off,ha,hcc⟩:=hc.2 (by omega);simp only[Option.some.injEq]at ha;subst ha;have e:(⟨b,off,O⟩:Addr).add j=⟨b,off+j,O⟩:=by
   unfold Addr.add;split
   .next h0=>subst h0;rfl
   .rfl
  rw[e,hcc j (by omega),hj]
 .intro g cp' w' hown' hgrow hat hlt;refine hK _ _ w' hown' hgrow fun g' hg'=>?_;simp[Value.ownBlock]at hg';subst hg';rcases hat with hat|hat
  .exact .inl hat
  .exact .inr (by omega)
theorem oQ(w:World)(B:Nat)(hB:B<=w.heap.size):(w.alloc (M #[] 200)).ownsRow B 200 1 (Z (Y ⟨w.heap.size,0,O⟩) 0 0) 0 []:=
 World.ownsRow_lit w #[] 0 hB (by unfold maxLen;omega) rfl
theorem aB8{k v:Int}{h:Bool}(hr:(!inB k 0 99||!inB v 0 9999)=A'):(⟨k,h,v⟩:Bf).fault=3:=by unfold Bf.fault;rw[if_pos hr]
theorem bU9{k v:Int}{h:Bool}(hr:(!inB k 0 99||!inB v 0 9999)=F')(hf:(!h&&v !=0)=A'):(⟨k,h,v⟩:Bf).fault=1:=by unfold Bf.fault;rw[if_neg (by rw[hr];exact Bool.false_ne_true),if_pos hf]
theorem aI3{k v:Int}{h:Bool}(hr:(!inB k 0 99||!inB v 0 9999)=F')(hf:(!h&&v !=0)=F'):(⟨k,h,v⟩:Bf).fault=0:=by unfold Bf.fault;rw[if_neg (by rw[hr];exact Bool.false_ne_true),if_neg (by rw[hf];exact Bool.false_ne_true)]
theorem aG4(a:Option Addr)(n cap:Nat)(bs:List Bf)(w:World)(h:CellsAt w a (n*3) (bfcells bs))(hn:n<=1048576):
  Calls prog 172 #[Z a n cap] w fun e w'=>e=R' (I J (cT bs))/\Below w.heap.size w w':=by
 have HL:=h.bflen;by_cases hbig:40<n
 .have HF:Hid (cT bs=2):=bU6 (by have:=HL.out;omega);go_enter func172,ntmps172
  go_wp2;go_ret;exact⟨cK HF.out.symm,u'⟩
 have hn4:n<=40:=by omega
 clear hbig;have HF:=hid (bU8 (bs:=bs) (by have:=HL.out;omega));go_enter func172,ntmps172
 go_wp2;go_loopw [3] (fun i wr=>∃k:Nat,k<=n/\i=I J k/\Hid (cT bs=eE (bs.drop k))/\Below w.heap.size w wr) (fun i _=>n-(intOf i).toNat)
 case atStart=>exact⟨0,Nat.zero_le _,rfl,HF.out,u'⟩
 case round=>
  clear HF;obtain⟨k,hk,rfl,HH,hB⟩:=hrel;by_cases hlt:k<n
  .have hkl:k<bs.length:=by have:=HL.out;omega
   have HS:=hid (fun he=>HH.out.trans (cL7 hkl he));have HN:=hid (fun he=>HH.out.trans (cL9 hkl he));obtain⟨b,off,rfl,q0,q1,q2⟩:=(h.below hB).bef hlt;have hbl:=aD q0;generalize bs.getD k Bf.zero=r at*;obtain⟨rk,rh,rv⟩:=r;simp only at q0 q1 q2;have IT:=fun W=>cQ rk W;have IM:=fun W=>bM rv W;cases ht:inB rk 0 99
   .rw[ht]at IT;have HX:=hid (aB8 (k:=rk) (v:=rv) (h:=rh) (by rw[ht];rfl));replace HS:=hid (HS.out (by rw[HX.out];rfl));clear HN IM;go_wp2_with fail
    refine(IT _).mono ?_;rintro e w'⟨rfl,rfl⟩;go_wp2;go_ret;exact⟨cK (HS.out.trans HX.out).symm,hB⟩
   rw[ht]at IT;cases hm:inB rv 0 9999
   .rw[hm]at IM;have HX:=hid (aB8 (k:=rk) (v:=rv) (h:=rh) (by rw[ht,hm];rfl));replace HS:=hid (HS.out (by rw[HX.out];rfl));clear HN;go_wp2_with fail
    refine(IT _).mono ?_;rintro e w'⟨rfl,rfl⟩;go_wp2_with fail
    refine(IM _).mono ?_;rintro e w'⟨rfl,rfl⟩;go_wp2;go_ret;exact⟨cK (HS.out.trans HX.out).symm,hB⟩
   rw[hm]at IM;cases rh
   .cases hv:(rv !=0)
    .have HX:=hid (aI3 (k:=rk) (v:=rv) (h:=F') (by rw[ht,hm];rfl) (by rw[hv];rfl));replace HN:=hid (HN.out (by rw[HX.out];rfl));clear HS;go_wp2_with fail
     refine(IT _).mono ?_;rintro e w'⟨rfl,rfl⟩;go_wp2_with fail
     refine(IM _).mono ?_;rintro e w'⟨rfl,rfl⟩;go_wp2;go_roundw;case rel=>exact⟨k+1,by omega,by go_num,HN.out,hB⟩
     case measure=>simp[intOf];omega
    .have HX:=hid (bU9 (k:=rk) (v:=rv) (h:=F') (by rw[ht,hm];rfl) (by rw[hv];rfl));replace HS:=hid (HS.out (by rw[HX.out];rfl));clear HN;go_wp2_with fail
     refine(IT _).mono ?_;rintro e w'⟨rfl,rfl⟩;go_wp2_with fail
     refine(IM _).mono ?_;rintro e w'⟨rfl,rfl⟩;go_wp2;go_ret;exact⟨cK (HS.out.trans HX.out).symm,hB⟩
   .have HX:=hid (aI3 (k:=rk) (v:=rv) (h:=A') (by rw[ht,hm];rfl) rfl);replace HN:=hid (HN.out (by rw[HX.out];rfl));clear HS;go_wp2_with fail
    refine(IT _).mono ?_;rintro e w'⟨rfl,rfl⟩;go_wp2_with fail
    refine(IM _).mono ?_;rintro e w'⟨rfl,rfl⟩;go_wp2;go_roundw;case rel=>exact⟨k+1,by omega,by go_num,HN.out,hB⟩
    case measure=>simp[intOf];omega
  .obtain rfl:k=n:=by omega
   have HZ:=hid (HH.out.trans (bU7 (by have:=HL.out;omega)));go_wp2;go_ret;exact⟨cK HZ.out.symm,hB⟩
end Go.Proofs.YtpbbokalojdooaaGreat
