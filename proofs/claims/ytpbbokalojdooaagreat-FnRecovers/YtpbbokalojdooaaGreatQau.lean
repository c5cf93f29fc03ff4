import Derived.Test.YtpbbokalojdooaaGreatQat
namespace Go.Proofs.YtpbbokalojdooaaGreat
open Go.RowKit Ch Go.Proofs.Tryz
set_option linter.unusedSimpArgs false
set_option linter.unusedVariables false
set_option maxRecDepth 20000
set_option maxHeartbeats 8000000
open Value renaming int->I,slice->Z,bool->X,agg->U
open IntKind renaming i64->J
open Option renaming none->O,some->Y
open Obj renaming cells->M
open Ending renaming returned->R'
open Bool renaming true->A',false->F'
variable {e q:Hold} {vs:List (Value×Value)} {hs qs:List Hold} {ls:List Lock} {xs:List Value} {B cq d2 g m n:Nat} {a a' a2 aq:Option Addr} {row:Option Nat} {r:Rec} {S:Sl} {t:TypeId} {v x:Value} {W w w':World}
theorem oZ(w:World)(B:Nat)(e:TypeId)(size:Nat)(hB:B<=w.heap.size):(w.alloc (M #[] e)).ownsRow B e size (Z (Y ⟨w.heap.size,0,O⟩) 0 0) 0 []:=
 World.ownsRow_lit w #[] 0 hB (by unfold maxLen;omega) (by simp)
theorem lC(a:Option Addr)(n cap:Nat)(t:Int)(hs:List Hold)(w:World)(h:CellsAt w a (n*2) (hcells hs))(hn:n<=1048576):
  Calls prog 222 #[Z a n cap,I J t] w fun e w'=>∃a' c',e=R' (Z a' (aI hs t).length c')/\w'.ownsRow w.heap.size 232 2 (Z a' (aI hs t).length c') (aI hs t).length (hcells (aI hs t))/\Below w.heap.size w w':=by
 have HL:=h.hlen;obtain⟨i0,hi0,hz0,hz1,hz2⟩:=info_parts Tryz.info232;have oE:=oZ w w.heap.size 232 2 z';go_enter func222,ntmps222
 go_wp2;go_loopw [5,6] (fun q i wr=>∃(k m:Nat) (a':Option Addr) (c':Nat),k<=n/\m<=k/\i=I J k/\q=Z a' m c'/\wr.ownsRow w.heap.size 232 2 (Z a' m c') m (hcells (aI (hs.take k) t))/\Below w.heap.size w wr) (fun _ i _=>n-(intOf i).toNat)
 case atStart=>exact⟨0,0,_,0,Nat.zero_le _,z',rfl,rfl,oE,q'⟩
 case round=>
  clear oE;obtain⟨k,m,a',c',hk,hmk,rfl,rfl,own,hB⟩:=hrel;by_cases hlt:k<n
  .have hkl:k<hs.length:=by have:=HL.out;omega
   have HY:=hid (fun he=>aY1 (t:=t) hkl he);have HN:=hid (fun he=>bG7 (t:=t) hkl he);obtain⟨b,off,rfl,q0,q1⟩:=(h.below hB).hold hlt;have hbl:=aD q0;generalize hs.getD k Hold.zero=r at*;obtain⟨rt,rm⟩:=r;simp only at q0 q1 HY HN;generalize aI (hs.take k) t=zs at*;have hsum:m+1<=4194304:=by omega
   by_cases he:rt=t
   .subst he;have hne:(rt !=rt)=F':=by simp
    go_wp2;go_roundw;case rel=>exact⟨k+1,m,a',c',by omega,by omega,by go_num,rfl,by rw[HN.out (by simp)];exact own,hB⟩
    case measure=>simp[intOf];omega
   .have hne:(rt !=t)=A':=by simpa using he
    have k2:=f' wr (M #[I J rt,I J rm] 232);have own2:=aF own k2;have hb2:w.heap.size<=(wr.alloc (M #[I J rt,I J rm] 232)).heap.size:=Nat.le_trans hB.size k2.size;have hC:=fT wr rt rm 232;go_wp2_with(at_builtin;go_must (refine bK underlying225 underlying225 hi0 hz0 hz1 hz2 rfl (by omega) (by omega) (.tmp 21) (.tmp 26) ?_ ?_ w.heap.size (Z a' m c') m (hcells zs) _ 1 1 (hcells [⟨rt,rm⟩]) ?_ ?_ own2 hC (cF _) hsum hb2 ?_;exact rfl;exact rfl;exact rfl;exact rfl;intro a5 c5 w5 own5 gr5 at5))
    go_roundw;case rel=>rw[<-bZ,<-HY.out he]at own5;have b2:=hB.trans (k2.mono hB.size);exact⟨k+1,m+1,a5,c5,by omega,by omega,by go_num,rfl,own5,b2.grown gr5 b2.size (fun g hg=>(aG own2 g hg).1)⟩
    case measure=>simp[intOf];omega
  .obtain rfl:k=n:=by omega
   have HWF:Hid (hs.take k=hs):=by have:=HL.out;show _=_;rw[this];exact List.take_length
   rw[HWF.out]at own;have hm:=(cQ1 own).out;subst hm;go_wp2;go_ret;exact⟨a',c',rfl,own,hB⟩
def aBlk:Value->List Nat
 |Z (Y ⟨b,_,O⟩) _ _=>[b]
 |_=>[]
theorem pK{c:Nat}(h:g∈aBlk (Z a m c)):∃o,a=Y ⟨g,o,O⟩:=by
 match a with
 |none=>simp[aBlk]at h
 |some ⟨b,o,Y s⟩=>simp[aBlk]at h
 |some ⟨b,o,O⟩=>simp only[aBlk,List.mem_singleton]at h;subst h;exact⟨o,rfl⟩
def rblk(p:Value×Value):List Nat:=aBlk p.1++aBlk p.2
def bG9(w:World)(x:Value):Prop:=(∃n,x=Z O n 0)\/∃g o n c,x=Z (Y ⟨g,o,O⟩) n c/\∀j,j<c*2->(w.cell? ⟨g,o+j,O⟩).isSome=A'/\w.frozen? ⟨g,o+j,O⟩=F'
def aB3(w:World)(B:Nat)(x:Value)(hs:List Hold):Prop:=∃a n c,x=Z a n c/\CellsAt w a (n*2) (hcells hs)/\n<=c/\n<=1048579/\(∀g∈aBlk x,B<=g/\g<w.heap.size)/\bG9 w x
theorem bP4(h:bG9 w x)(gr:w.grownBy w' row)(hl:∀g∈aBlk x,g<w.heap.size)(hr:∀g,row=Y g->g∉aBlk x):bG9 w' x:=by
 rcases h with h|⟨g,o,n,c,rfl,hc⟩
 .exact .inl h
 .refine .inr ⟨g,o,n,c,rfl,fun j hj=>?_⟩;have hb:=gr.block g (hl g (by simp[aBlk])) (fun e=>hr g e.symm (by simp[aBlk]));have hcj:=hc j hj;simp only[World.cell?,World.frozen?]at hcj⊢;rw[hb];exact hcj
theorem pJ(h:aB3 w B x hs)(gr:w.grownBy w' row)(hr:∀g,row=Y g->g∉aBlk x):aB3 w' B x hs:=by
 obtain⟨a,n,c,rfl,hc,h1,h2,h3,h4⟩:=h;refine⟨a,n,c,rfl,?_,h1,h2,fun g hg=>⟨(h3 g hg).1,Nat.lt_of_lt_of_le (h3 g hg).2 gr.size⟩,bP4 h4 gr (fun g hg=>(h3 g hg).2) hr⟩;rcases Nat.eq_zero_or_pos n with h0|h0
 .subst h0;exact⟨hc.1,fun h=>absurd h (by simp)⟩
 .exact gG hc gr fun b off ha e=>hr b e (by subst ha;simp[aBlk])
theorem cQ6(h:w.ownsRow B 232 2 x n xs):bG9 w x:=by
 rcases h.2 with⟨rfl,_⟩|⟨g,cap,cur,rfl,_,hg,_,_,hs,_⟩
 .exact .inl ⟨_,rfl⟩
 .refine .inr ⟨g,0,n,cap,rfl,fun j hj=>?_⟩;rw[Nat.zero_add];refine⟨?_,pO hg⟩;rw[cell_of_row _ _ _ _ _ _ hg];simp[show j<cur.size by omega]
theorem dE8(h:w.ownsRow B 232 2 x hs.length (hcells hs))(hn:hs.length<=1048579):aB3 w B x hs/\∀g∈aBlk x,x.ownBlock=Y g:=by
 have hrm:=cQ6 h;obtain⟨a,c,rfl⟩:=dI h;have hb:∀g∈aBlk (Z a hs.length c),(Z a hs.length c).ownBlock=Y g:=by intro g hg;obtain⟨o,rfl⟩:=pK hg;rfl
 exact⟨⟨a,_,c,rfl,aJ h,fH h,hn,fun g hg=>aG h g (hb g hg),hrm⟩,hb⟩
def QF(aq:Option Addr)(cq:Nat)(a2:Option Addr)(d2:Nat):Prop:=(aq=O/\cq=0)\/∃g o,aq=Y ⟨g,o,O⟩/\a2=Y ⟨g,0,O⟩/\o+cq*2<=d2*2
theorem QF.blk{o:Nat}(h:QF aq cq a2 d2)(e:aq=Y ⟨g,o,O⟩):(Z a2 m d2).ownBlock=Y g:=by
 rcases h with⟨h,_⟩|⟨g',o',h1,h2,_⟩
 .rw[h]at e;cases e
 .rw[h1]at e;simp only[Option.some.injEq,Addr.mk.injEq,and_true]at e;rw[h2,<-e.1];rfl
theorem QF.tail{qb qo:Nat}(h:QF (Y ⟨qb,qo,O⟩) cq a2 d2)(h1:1<=cq):QF (Y ⟨qb,qo+2,O⟩) (cq-1) a2 d2:=by
 rcases h with⟨h,_⟩|⟨g',o',h2,h3,h4⟩
 .cases h
 .simp only[Option.some.injEq,Addr.mk.injEq,and_true]at h2;exact .inr ⟨qb,qo+2,rfl,by rw[h3,h2.1],by rw[h2.2];omega⟩
theorem QF.last{qb qo:Nat}(h:QF (Y ⟨qb,qo,O⟩) cq a2 d2):QF (Y ⟨qb,qo,O⟩) 0 a2 d2:=by
 rcases h with⟨h,_⟩|⟨g',o',h2,h3,h4⟩
 .cases h
 .simp only[Option.some.injEq,Addr.mk.injEq,and_true]at h2;exact .inr ⟨qb,qo,rfl,by rw[h3,h2.1],by rw[h2.2];omega⟩
theorem QF.own{a2d:Nat}{e:TypeId}{size:Nat}(h:w.ownsRow B e size (Z a2 n a2d) n xs):QF a2 a2d a2 a2d:=by
 rcases h.2 with⟨hv,_⟩|⟨g,cap,cur,hv,_⟩
 .simp only[Value.slice.injEq]at hv;exact .inl ⟨hv.1,hv.2.2⟩
 .simp only[Value.slice.injEq]at hv;exact .inr ⟨g,0,hv.1,hv.1,by omega⟩
theorem QF.roomy(h:QF aq cq a2 d2)(ho:w.ownsRow B 232 2 (Z a2 n d2) n xs):bG9 w (Z aq m cq):=by
 rcases h with⟨rfl,rfl⟩|⟨g,o,rfl,rfl,hle⟩
 .exact .inl ⟨_,rfl⟩
 .refine .inr ⟨g,o,m,cq,rfl,fun j hj=>?_⟩;rcases ho.2 with⟨hv,_⟩|⟨g',cap,cur,hv,_,hg,_,_,hs,_⟩
  .simp at hv
  .simp only[Value.slice.injEq,Option.some.injEq,Addr.mk.injEq,and_true,true_and]at hv;obtain⟨rfl,rfl⟩:=hv;refine⟨?_,pO hg⟩;rw[cell_of_row _ _ _ _ _ _ hg];simp[show o+j<cur.size by omega]
structure ReadK(w:World)(B:Nat)(v:Value)(n:Nat)(ls:List Lock)(vs:List (Value×Value)):Prop where
 len:ls.length=n
 vlen:vs.length=n
 row:w.ownsRow B 227 3 v n (lcells ls vs)
 hs:∀i p,vs[i]? =Y p->aB3 w B p.1 (aH ls i).hs
 qs:∀i p,vs[i]? =Y p->aB3 w B p.2 (aH ls i).qs
 apart:(v.ownBlock.toList++vs.flatMap rblk).Nodup
theorem aX5(h:g∈vs.flatMap rblk):∃(i:Nat) (p:Value×Value),vs[i]? =Y p/\g∈rblk p:=by rw[List.mem_flatMap]at h;obtain⟨p,hp,hg⟩:=h;obtain⟨i,hi,rfl⟩:=List.getElem_of_mem hp;exact⟨i,_,by simp[hi],hg⟩
theorem ReadK.bd(h:ReadK w B v n ls vs)(hg:g∈v.ownBlock.toList++vs.flatMap rblk):B<=g/\g<w.heap.size:=by
 rw[List.mem_append]at hg;rcases hg with hg|hg
 .exact aG h.row g (by simpa using hg)
 .obtain⟨i,p,hp,hgp⟩:=aX5 hg;unfold rblk at hgp;rw[List.mem_append]at hgp;rcases hgp with h1|h1
  .obtain⟨_,_,_,_,_,_,_,hh,_⟩:=h.hs i p hp;exact hh g h1
  .obtain⟨_,_,_,_,_,_,_,hh,_⟩:=h.qs i p hp;exact hh g h1
theorem ReadK.other(h:ReadK w B v n ls vs)(gr:w.grownBy w' row)(hr:∀g,row=Y g->g∉v.ownBlock.toList++vs.flatMap rblk):ReadK w' B v n ls vs:=by have hin:∀(i:Nat) (p:Value×Value),vs[i]? =Y p->∀g∈rblk p,g∈v.ownBlock.toList++vs.flatMap rblk:=fun i p hp g hg=>List.mem_append.2 (.inr (List.mem_flatMap.2 ⟨p,List.mem_of_getElem? hp,hg⟩));refine⟨h.len,h.vlen,aK h.row gr fun g hg e=>hr g e (List.mem_append.2 (.inl (by simp[hg]))),fun i p hp=>pJ (h.hs i p hp) gr fun g e hg=>hr g e (hin i p hp g (by simp[rblk,hg])),fun i p hp=>pJ (h.qs i p hp) gr fun g e hg=>hr g e (hin i p hp g (by simp[rblk,hg])),h.apart⟩
theorem ReadK.below(h:ReadK w B v n ls vs)(hb:Below w.heap.size w w'):ReadK w' B v n ls vs:=h.other (lO hb O) (fun g hg=>by cases hg)
theorem ReadK.snoc(h:ReadK w B v n ls vs){l:Lock}{y:Value}{c':Nat}
  (own:w'.ownsRow B 227 3 (Z a' (n+1) c') (n+1) (lcells ls vs++[I J l.r,x,y])) (gr:w.grownBy w' v.ownBlock) (hat:∀g,(Z a' (n+1) c').ownBlock=Y g->v.ownBlock=Y g\/w.heap.size<=g)
  (hx:aB3 w B x l.hs) (hy:aB3 w B y l.qs) (hn:∀g∈rblk (x,y),g∉v.ownBlock.toList++vs.flatMap rblk) (hnd:(rblk (x,y)).Nodup):ReadK w' B (Z a' (n+1) c') (n+1) (ls++[l]) (vs++[(x,y)]):=by
 have hl:ls.length=vs.length:=by rw[h.len,h.vlen]
 have hget:∀(i:Nat) (q:Value×Value),(vs++[(x,y)])[i]? =Y q->(i=n/\q=(x,y))\/(i<n/\vs[i]? =Y q):=by
  intro i q hq;rcases Nat.lt_trichotomy i n with hi|hi|hi
  .rw[List.getElem?_append_left (by rw[h.vlen];exact hi)]at hq;exact .inr ⟨hi,hq⟩
  .subst hi;rw[List.getElem?_append_right (by rw[h.vlen];omega)]at hq;simp[h.vlen]at hq;exact .inl ⟨rfl,hq.symm⟩
  .rw[List.getElem?_eq_none (by simp[h.vlen];omega)]at hq;cases hq
 have hlk:∀i,i<n->aH (ls++[l]) i=aH ls i:=by intro i hi;unfold aH;simp[List.getD,List.getElem?_append_left (show i<ls.length by rw[h.len];exact hi)]
 have hln:aH (ls++[l]) n=l:=by unfold aH;simp[List.getD,h.len]
 have hsub:∀(i:Nat) (q:Value×Value),(vs++[(x,y)])[i]? =Y q->∀g∈rblk q,g<w.heap.size/\v.ownBlock≠Y g:=by
  intro i q hq g hg;rcases hget i q hq with⟨_,rfl⟩|⟨_,hq⟩
  .refine⟨?_,fun e=>hn g hg (List.mem_append.2 (.inl (by simp[e])))⟩;simp only[rblk,List.mem_append]at hg;rcases hg with hg|hg
   .obtain⟨_,_,_,_,_,_,_,hh,_⟩:=hx;exact(hh g hg).2
   .obtain⟨_,_,_,_,_,_,_,hh,_⟩:=hy;exact(hh g hg).2
  .have hm:g∈vs.flatMap rblk:=List.mem_flatMap.2 ⟨q,List.mem_of_getElem? hq,hg⟩;exact⟨(h.bd (List.mem_append.2 (.inr hm))).2,fun e=>(List.nodup_append.1 h.apart).2.2 g (by simp[e]) g hm rfl⟩
 refine⟨by simp[h.len],by simp[h.vlen],?_,fun i q hq=>?_,fun i q hq=>?_,?_⟩
 .rw[lD hl];exact own
 .have hs:=hsub i q hq;rcases hget i q hq with⟨rfl,rfl⟩|⟨hi,hq'⟩
  .rw[hln];exact pJ hx gr fun g e hg=>(hs g (by simp[rblk,hg])).2 e
  .rw[hlk i hi];exact pJ (h.hs i q hq') gr fun g e hg=>(hs g (by simp[rblk,hg])).2 e
 .have hs:=hsub i q hq;rcases hget i q hq with⟨rfl,rfl⟩|⟨hi,hq'⟩
  .rw[hln];exact pJ hy gr fun g e hg=>(hs g (by simp[rblk,hg])).2 e
  .rw[hlk i hi];exact pJ (h.qs i q hq') gr fun g e hg=>(hs g (by simp[rblk,hg])).2 e
 .rw[List.flatMap_append];have h2:=List.nodup_append.1 h.apart;have e1:[(x,y)].flatMap rblk=rblk (x,y):=by simp
  rw[e1,List.nodup_append];refine⟨by cases(Z a' (n+1) c').ownBlock<;>simp,?_,?_⟩
  .rw[List.nodup_append];refine⟨h2.2.1,hnd,fun a ha b hb e=>?_⟩;subst e;exact hn a hb (List.mem_append.2 (.inr ha))
  .intro a ha b hb e;subst e;have ha':(Z a' (n+1) c').ownBlock=Y a:=by simpa using ha
   have hm:a∈(vs++[(x,y)]).flatMap rblk:=by rw[List.flatMap_append,e1];exact hb
   obtain⟨i,q,hq,hgq⟩:=aX5 hm;have hs:=hsub i q hq a hgq;rcases hat a ha' with h1|h1
   .exact hs.2 h1
   .omega
theorem ReadK.lkIn{cap:Nat}(h:ReadK w B (Z a n cap) n ls vs):LkIn B w.heap.size w a n ls:=by
 refine⟨h.len,fun h0=>?_⟩;have hc:=aJ h.row;obtain⟨b,off,ha,hcc⟩:=hc.2 (by omega);subst ha;have hob:B<=b/\b<w.heap.size/\off=0:=by
  rcases h.row.2 with⟨hv,h0'⟩|⟨g,cp,cur,hv,_⟩
  .omega
  .have:=aG h.row g (by rw[hv];rfl);simp only[Value.slice.injEq,Option.some.injEq,Addr.mk.injEq]at hv;obtain⟨⟨rfl,rfl,_⟩,_⟩:=hv;exact⟨this.1,this.2,rfl⟩
 refine⟨b,off,rfl,hob.1,hob.2.1,fun i hi=>?_⟩;obtain⟨p,hp⟩:∃p,vs[i]? =Y p:=⟨vs[i]'(by rw[h.vlen];exact hi),by simp⟩
 have hl:=pC (by rw[h.len,h.vlen]) hp (ls:=ls);obtain⟨ah,nh,ch,e1,k1,k2,k3,k4,_⟩:=h.hs i p hp;obtain⟨aq,nq,cq,e2,j1,j2,j3,j4,_⟩:=h.qs i p hp;rw[e1]at hl k4;rw[e2]at hl j4;refine⟨ah,nh,ch,aq,nq,cq,⟨(hcc _ (by omega)).trans hl.1,?_,?_,k1,j1,by omega,by omega,k2,j2⟩,fun g o _ e=>k4 g (by subst e;simp[aBlk]),fun g o _ e=>j4 g (by subst e;simp[aBlk])⟩
 .rw[Nat.add_assoc];exact(hcc _ (by omega)).trans hl.2.1
 .rw[Nat.add_assoc];exact(hcc _ (by omega)).trans hl.2.2
theorem ReadK.empty(w:World)(B:Nat)(hB:B<=w.heap.size):ReadK (w.alloc (M #[] 227)) B (Z (Y ⟨w.heap.size,0,O⟩) 0 0) 0 [] []:=
 ⟨rfl,rfl,oZ w B _ 3 hB,fun i p hp=>by simp at hp,fun i p hp=>by simp at hp,by simp[Value.ownBlock]⟩
theorem tO{u0 u1 u2:Value}(h:W.heap[g]? =Y (M #[u0,u1,u2] t (0,0))):
  (W.cell? ⟨g,0,O⟩=Y u0/\W.cell? ⟨g,1,O⟩=Y u1/\W.cell? ⟨g,2,O⟩=Y u2)/\(W.frozen? ⟨g,0,O⟩=F'/\W.frozen? ⟨g,1,O⟩=F'/\W.frozen? ⟨g,2,O⟩=F'):=
 ⟨⟨cell_of_row _ _ _ _ _ _ h,cell_of_row _ _ _ _ _ _ h,cell_of_row _ _ _ _ _ _ h⟩,pO h,pO h,pO h⟩
theorem CellsAt.hdrop{b off:Nat}(h:CellsAt w (Y ⟨b,off,O⟩) (n*2) (hcells hs))(j:Nat)(hj:j<=n):CellsAt w (Y ⟨b,off+j*2,O⟩) ((n-j)*2) (hcells (hs.drop j)):=by
 have hl:=h.hlen.out;have e:hcells (hs.drop j)=(hcells hs).drop (j*2):=by
  have h1:hcells hs=hcells (hs.take j)++hcells (hs.drop j):=by rw[<-bZ,List.take_append_drop]
  have h2:(hcells (hs.take j)).length=j*2:=by rw[iF];simp;omega
  rw[h1,<-h2,List.drop_left]
 refine⟨by rw[iF];simp;omega,fun hm=>?_⟩;obtain⟨b',off',ha,hc⟩:=h.2 (by omega);simp only[Option.some.injEq,Addr.mk.injEq,and_true]at ha;obtain⟨rfl,rfl⟩:=ha;refine⟨b,off+j*2,rfl,fun i hi=>?_⟩;rw[e,List.getElem?_drop,Nat.add_assoc,hc _ (by omega)]
namespace Ch
theorem aS9:e∈gU ls↔∃l∈ls,∃i,i<l.qs.length/\e∈jF (l.qs.getD i Hold.zero) l.hs++kG (l.qs.getD i Hold.zero) (l.qs.take i):=by unfold gU pG;simp only[List.mem_flatMap,List.mem_range]
theorem cS1:e∈jF q hs↔∃h∈hs,h.t≠q.t/\kH h.m q.m=F'/\e=⟨q.t,h.t⟩:=by
 unfold jF;simp only[List.mem_map,List.mem_filter];constructor
 .rintro⟨h,⟨h1,h2⟩,rfl⟩;simp at h2;exact⟨h,h1,h2.1,h2.2,rfl⟩
 .rintro⟨h,h1,h2,h3,rfl⟩;exact⟨h,⟨h1,by simp[h2,h3]⟩,rfl⟩
theorem bT5:e∈kG q qs↔∃x∈qs,e=⟨q.t,x.t⟩:=by unfold kG;simp only[List.mem_map];exact⟨fun⟨x,h,e⟩=>⟨x,h,e.symm⟩,fun⟨x,h,e⟩=>⟨x,h,e.symm⟩⟩
theorem bF3(h:aS ls=0)(he:e∈gU ls):gZ ls e.t=A'/\e.t≠e.m:=by
 obtain⟨h1,h2⟩:=eL h;obtain⟨l,hl,i,hi,hm⟩:=aS9.1 he;have hq:l.qs.getD i Hold.zero∈l.qs:=by simp[List.getD,hi]
 have hw:aV l.qs (l.qs.getD i Hold.zero).t=A':=dH.2 ⟨_,hq,rfl⟩;have hb:=(aY0 h2 hl hw).1;rcases List.mem_append.1 hm with hm|hm
 .obtain⟨x,_,hne,_,rfl⟩:=cS1.1 hm;exact⟨hb,fun e=>hne e.symm⟩
 .obtain⟨x,hx,rfl⟩:=bT5.1 hm;refine⟨hb,fun e=>?_⟩;obtain⟨k,hk,rfl⟩:=uC hl;have hg:=(fN (iI (h1 k hk)).2.2.2).2.2.2.2.2.1;have:=aP3 hi (dH.2 ⟨x,hx,e.symm⟩);rw[hg]at this;cases this
end Ch
theorem bV3(w:World):(Instr.build 131 #[]).run prog w= .ok (U (slA (fun _=>O))) w:=by kernel_rfl
theorem aO3{r:Row}(h:r.fault=0):0<=r.k/\r.k<=99:=by have:=qG h;unfold Row.fits at this;omega
theorem cR0(a:Option Addr)(n cap:Nat)(rs:List Row)(w:World)(h:CellsAt w a (n*3) (rcells rs))(hn:n<=240)(hf:∀k,k<rs.length->(rs.getD k Row.zero).fault=0):
  Calls prog 40 #[Z a n cap] w fun e w'=>e=R' (.pointer (Y ⟨w.heap.size,0,O⟩))/\Slt w' w.heap.size (fU rs rs.length)/\Below w.heap.size w w':=by
 have HL:=h.rlen;have HF:=hid hf;clear hf;have hbd:=bV3;have h0:Slt (w.alloc (M (slA (fun _=>O)) 131)) w.heap.size (fU rs 0):=heap_alloc_new w _;go_enter func40,ntmps40
 go_wp2;go_loopw [10] (fun i wr=>∃k:Nat,k<=n/\i=I J k/\Slt wr w.heap.size (fU rs k)/\Below w.heap.size w wr) (fun i _=>n-(intOf i).toNat)
 case atStart=>exact⟨0,Nat.zero_le _,rfl,h0,q'⟩
 case round=>
  clear h0 hbd;obtain⟨k,hk,rfl,hS,hB⟩:=hrel;by_cases hlt:k<n
  .have hkl:k<rs.length:=by have:=HL.out;omega
   have HK:=hid (aO3 (HF.out k hkl));have HT:=hid (aT5 (rs:=rs) hkl);obtain⟨b,off,rfl,q0,q1,q2⟩:=(h.below hB).row hlt;have hbl:=aD q0;generalize rs.getD k Row.zero=r at*;obtain⟨rk,rv,rg⟩:=r;simp only at q0 q1 q2 HT HK;have hkk:0<=rk/\rk<=99:=HK.out;have IS:=fun W hW=>bD5 w.heap.size rk A' rv (fU rs k) W hW hkk;have hS1:=hS.alloc (M #[I J rk,I J rv,X rg] 86);have b1:=hB.alloc hB.size (M #[I J rk,I J rv,X rg] 86);go_wp2_with fail
   refine(IS _ hS1).mono ?_;rintro e w1⟨rfl,hS2,g2⟩;have b2:=b1.grown g2 b1.size (fun j hj=>by cases hj;exact z');clear IS hS1 g2 b1;go_wp2;go_roundw;case rel=>exact⟨k+1,by omega,by go_num,by rw[HT.out];exact hS2,b2⟩
   case measure=>simp[intOf];omega
  .obtain rfl:k=n:=by omega
   have HWF:Hid (k=rs.length):=HL.out;rw[HWF.out]at hS;go_wp2;go_ret;exact⟨rfl,hS,hB⟩
theorem aE6(h:eU r.kd=F'):rW S r=S:=by unfold rW;rw[h];rfl
theorem zM(h:eU r.kd=A'):rW S r=S.set r.ky (rT r.hs r.nw):=by unfold rW;rw[h];rfl
theorem cY9(p:Nat)(a:Option Addr)(n cap:Nat)(rs:List Rec)(S:Sl)(w:World)(h:CellsAt w a (n*7) (rc7 rs))(hn:n<=800)(hf:∀k,k<rs.length->(rs.getD k Rec.zero).fault=0)(hS:Slt w p S)(hne:0<n->∀b off,a=Y ⟨b,off,O⟩->b≠p):
  Calls prog 41 #[.pointer (Y ⟨p,0,O⟩),Z a n cap] w fun e w'=>e=R' (.tuple #[])/\Slt w' p (fG S rs rs.length)/\w.grownBy w' (Y p):=by
 have HL:=h.len7;have HF:=hid hf;clear hf;go_enter func41,ntmps41
 go_wp2;go_loopw [8] (fun i wr=>∃k:Nat,k<=n/\i=I J k/\Slt wr p (fG S rs k)/\w.grownBy wr (Y p)) (fun i _=>n-(intOf i).toNat)
 case atStart=>exact⟨0,Nat.zero_le _,rfl,hS,⟨rfl,rfl,rfl,z',fun _ _ _=>rfl⟩⟩
 case round=>
  clear hS;obtain⟨k,hk,rfl,hS,hG⟩:=hrel;by_cases hlt:k<n
  .have hkl:k<rs.length:=by have:=HL.out;omega
   have HK:=hid (Rec.fit (HF.out k hkl)).ky;have HT:=hid (xD (S:=S) (rs:=rs) hkl);obtain⟨b,off,rfl,q0,q1,q2,q3,q4,q5,q6⟩:=(gG h hG (fun b off ha e=>hne (by omega) b off ha (by simpa using e.symm))).rec hlt;have hbl:=aD q0;have HN:=hid (fun hh=>aE6 (S:=fG S rs k) (r:=rs.getD k Rec.zero) hh);have HY:=hid (fun hh=>zM (S:=fG S rs k) (r:=rs.getD k Rec.zero) hh);generalize rs.getD k Rec.zero=r at*;obtain⟨rk,rt,ry,rh,ro,rx,rn⟩:=r;simp only at q0 q1 q2 q3 q4 q5 q6 HK HN HY;have hkk:0<=ry/\ry<=99:=HK.out;have IS:=fun W hW=>bD5 p ry rx rn (fG S rs k) W hW hkk;have IT:=fun W=>nS rk W;have hS1:=hS.alloc (M #[I J rk,I J rt,I J ry,X rh,I J ro,X rx,I J rn] 79);have g1:w.grownBy (wr.alloc (M #[I J rk,I J rt,I J ry,X rh,I J ro,X rx,I J rn] 79)) (Y p):=aL4 hG (World.grownBy_alloc wr _ _);cases hs:eU rk
   .rw[hs]at IT;replace HN:=hid (HT.out.trans (HN.out hs));clear IS HY HT hs;go_wp2_with(go_at_call 82;refine(IT _).mono ?_;rintro e w1⟨rfl,hw1⟩;obtain rfl:=hw1.symm)
    go_roundw;case rel=>exact⟨k+1,by omega,by go_num,by rw[HN.out];exact hS1,g1⟩
    case measure=>simp[intOf];omega
   .rw[hs]at IT;replace HY:=hid (HT.out.trans (HY.out hs));clear HN HT hs;go_wp2_with(first|(go_at_call 82;refine(IT _).mono ?_;rintro e w1⟨rfl,hw1⟩;obtain rfl:=hw1.symm)|(go_at_call 81;refine(IS _ hS1).mono ?_;rintro e w2⟨rfl,hS2,g2⟩))
    go_roundw;case rel=>exact⟨k+1,by omega,by go_num,by rw[HY.out];exact hS2,aL4 g1 g2⟩
    case measure=>simp[intOf];omega
  .obtain rfl:k=n:=by omega
   have HWF:Hid (k=rs.length):=HL.out;rw[HWF.out]at hS;go_wp2;exact bodyPost_end (results_none rfl _ _ _) rfl ⟨rfl,hS,hG⟩
theorem uY(a b:List Row):rcells (a++b)=rcells a++rcells b:=by simp[rcells]
theorem uZ(zs:List Row):∀u∈rcells zs,u.oneCell'=A':=by intro u hu;simp only[rcells,List.mem_flatMap]at hu;obtain⟨r,_,hu⟩:=hu;simp at hu;rcases hu with rfl|rfl|rfl<;>rfl
theorem bM8(w:World)(k v:Int)(g:Bool)(t:TypeId):CellsAt (w.alloc (M #[I J k,I J v,X g] t)) (Y ⟨w.heap.size,0,O⟩) (1*3) (rcells [⟨k,v,g⟩]):=by refine⟨rfl,fun _=>⟨_,_,rfl,fun i hi=>?_⟩⟩;rw[Nat.zero_add];have:=cell_of_row (w.alloc (M #[I J k,I J v,X g] t)) _ i _ _ _ (heap_alloc_new w _);rw[this];simp[rcells]
theorem cQ7(p:Nat)(S:Sl)(w:World)(h:Slt w p S):
  Calls prog 43 #[.pointer (Y ⟨p,0,O⟩)] w fun e w'=>∃a' m c',e=R' (Z a' m c')/\m<=100/\w'.ownsRow w.heap.size 86 3 (Z a' m c') m (rcells (Ch.rowsS S))/\Below w.heap.size w w':=by
 obtain⟨i0,hi0,hz0,hz1,hz2⟩:=info_parts Tryz.info86;have HR:Hid (Ch.rowsS S=iL S 100):=rfl;rw[HR.out];go_enter func43,ntmps43
 go_wp2;go_loopw [3,8] (fun q i wr=>∃(k m:Nat) (a':Option Addr) (c':Nat),k<=100/\m<=k/\i=I J k/\q=Z a' m c'/\wr.ownsRow w.heap.size 86 3 (Z a' m c') m (rcells (iL S k))/\Slt wr p S/\Below w.heap.size w wr) (fun _ i _=>100-(intOf i).toNat)
 case atStart=>exact⟨0,0,O,0,Nat.zero_le _,z',rfl,rfl,World.ownsRow_nil _ _ _ _,h,u'⟩
 case round=>
  obtain⟨k,m,a',c',hk,hmk,rfl,rfl,own,hS,hB⟩:=hrel;by_cases hlt:k<100
  .have HY:=hid (fun v hv=>bG3 (S:=S) (m:=k) (v:=v) hv);have HN:=hid (fun hv=>bT2 (S:=S) (m:=k) hv);obtain⟨d0,d1⟩:=hS.cell2 hlt;have hpl:=hS.lt;generalize S (k:Int)=o at*;generalize iL S k=zs at*;have i1:(k:Int)<100:=by omega
   cases o with
   |none=>
    simp only[Option.isSome_none,Option.getD_none]at d0 d1;have own2:=aF own (u'.alloc z' (M #[X F',I J 0] 129));have hS2:=hS.alloc (M #[X F',I J 0] 129);have b2:=(hB.alloc hB.size (M #[X F',I J 0] 129)).drew;have HQ:=hid (HN.out rfl);clear HY HN;go_wp2;go_region
    go_wp2;go_roundw;case rel=>exact⟨k+1,m,a',c',by omega,by omega,by go_num,rfl,by rw[HQ.out];exact own2,hS2,b2⟩
    case measure=>simp[intOf];omega
   |some v=>
    simp only[Option.isSome_some,Option.getD_some]at d0 d1;have own2:(wr.alloc (M #[X A',I J v] 129)).drew.ownsRow w.heap.size 86 3 (Z a' m c') m (rcells zs):=aF own ((Below.refl _ wr).alloc z' (M #[X A',I J v] 129)).drew;have hS2:Slt (wr.alloc (M #[X A',I J v] 129)).drew p S:=hS.below ((Below.refl _ wr).alloc z' (M #[X A',I J v] 129)).drew;have b2:=(hB.alloc hB.size (M #[X A',I J v] 129)).drew;have HQ:=hid (HY.out v rfl);clear HY HN;have kQ:Below (wr.alloc (M #[X A',I J v] 129)).drew.heap.size (wr.alloc (M #[X A',I J v] 129)).drew ((wr.alloc (M #[X A',I J v] 129)).drew.alloc (M #[I J k,I J v,X F'] 86)):=q';have own3:=aF own2 kQ;have hS3:=hS2.below kQ;have b3:=b2.trans (kQ.mono b2.size);have hC3:=bM8 (wr.alloc (M #[X A',I J v] 129)).drew k v F' 86;rw[show(wr.alloc (M #[X A',I J v] 129)).drew.heap.size=wr.heap.size+1 by simp]at hC3;have hb3:w.heap.size<=((wr.alloc (M #[X A',I J v] 129)).drew.alloc (M #[I J k,I J v,X F'] 86)).heap.size:=by have:=hB.size;simp;omega
    have hpw:p<w.heap.size:=h.lt;go_wp2;go_region
    go_wp2_with(at_builtin;go_must (refine bK underlying24 underlying24 hi0 hz0 hz1 hz2 rfl (by omega) (by omega) (.tmp 16) (.tmp 21) ?_ ?_ w.heap.size (Z a' m c') m (rcells zs) _ 1 1 (rcells [⟨k,v,F'⟩]) ?_ ?_ own3 hC3 (uZ _) (by omega) hb3 ?_;exact rfl;exact rfl;exact rfl;exact rfl;intro a5 c5 w5 own5 gr5 at5;go_frame))
    go_roundw;case rel=>rw[<-uY,<-HQ.out]at own5;exact⟨k+1,m+1,a5,c5,by omega,by omega,by go_num,rfl,own5,hS3.keep gr5 (sW own3 hpw),b3.grown gr5 b3.size (fun g hg=>(aG own3 g hg).1)⟩
    case measure=>simp[intOf];omega
  .obtain rfl:k=100:=by omega
   go_wp2;go_ret;exact⟨a',m,c',rfl,by omega,own,hB⟩
end Go.Proofs.YtpbbokalojdooaaGreat
